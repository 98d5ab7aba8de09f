import unittest

from portage.compiler import compile_program
from portage.moves import goes_with, lifted
from portage.reader import read_program

NIL = ("nil",)
IMAGE = compile_program(read_program("""
    interface I { }
    maker Two(attached a: I, b: I, attached n: int) { field c: I; attached field d: I; field m: int; }
    maker None2(a: I, b: I) { field c: I; }
    maker All(attached a: I, attached b: I) { }
    maker Empty() { }
    start { return 0; }"""))


def name(k):
    return ((k // 4,), k % 4)


def held(k):
    """A value: the reference of an object, nil for None."""
    return NIL if k is None else ("ref", name(k))


def two(a, b, c, d):
    return ("Two", (held(a), held(b), 3, held(c), held(d), 4))


def none(*objects):
    return ("None2", tuple([held(k) for k in objects]))


def both(a, b):
    return ("All", (held(a), held(b)))


def bundles_of(rows):
    """The dict of bundles, with frames that refer to all of them: what frames hold does not go with anything."""
    stack = tuple([held(k) for k in rows])
    frame = ((), 0, ("f", 0, stack, stack), (), (0, 0), "")
    return {name(k): (name(k), maker, fields, (frame,), k) for k, (maker, fields) in rows.items()}


class GoesWith(unittest.TestCase):
    def go(self, rows, k, expected):
        bundles = bundles_of(rows)
        before = dict(bundles)
        self.assertEqual(goes_with(IMAGE, bundles, name(k)), tuple([name(other) for other in expected]))
        self.assertEqual(list(bundles.items()), list(before.items()))

    def test_alone(self):
        self.go({5: ("Empty", ())}, 5, [5])
        self.go({5: none(6, 7, 5), 6: ("Empty", ()), 7: ("Empty", ())}, 5, [5])
        self.go({5: two(None, None, None, None), 6: ("Empty", ())}, 5, [5])
        self.go({5: both(6, 7)}, 5, [5])

    def test_attached_params_and_fields(self):
        rows = {k: ("Empty", ()) for k in range(9)}
        self.go(rows | {5: two(6, 7, 8, 1)}, 5, [1, 5, 6])
        self.go(rows | {5: two(6, 7, 8, None)}, 5, [5, 6])
        self.go(rows | {5: two(None, 7, 8, 1)}, 5, [1, 5])
        self.go(rows | {5: two(6, 6, 6, 6)}, 5, [5, 6])
        self.go(rows | {5: two(None, 6, 6, None)}, 5, [5])

    def test_ascending(self):
        self.go({k: both(11 - k, None) for k in (0, 3, 8, 11)}, 11, [0, 11])
        self.go({11: both(3, 8), 3: both(0, None), 8: both(10, 9), 0: both(None, None), 9: none(1, 1, 1), 10: none(1, 1, 1)}, 11,
                [0, 3, 8, 9, 10, 11])

    def test_rows_and_rings(self):
        chain = {k: both(k + 1, None) for k in range(6)}
        self.go(chain, 0, range(6))
        self.go(chain, 4, [4, 5])
        ring = {k: both(None, (k + 1) % 6) for k in range(6)}
        for k in range(6):
            self.go(ring, k, range(6))
        self.go({0: both(0, 0), 1: both(0, 1)}, 0, [0])
        self.go({0: both(0, 0), 1: both(0, 1)}, 1, [0, 1])
        self.go({0: both(1, 2), 1: both(2, 0), 2: both(0, 1), 3: both(0, 1)}, 1, [0, 1, 2])

    def test_not_through_what_is_elsewhere(self):
        self.go({0: both(1, 7), 1: both(7, None), 2: both(0, 1)}, 0, [0, 1])

    def test_not_through_fields_that_are_not_attached(self):
        self.go({0: two(1, 3, 3, None), 1: none(2, 2, 2), 2: both(0, 0), 3: both(2, 2)}, 0, [0, 1])

    def test_long_rows(self):
        self.go({k: both(k + 1, k - 1) for k in range(1, 2000)}, 700, range(1, 2000))

    def test_numbers_in_attached_fields(self):
        self.go({5: ("Two", (0, NIL, 6, NIL, 0, 6)), 6: ("Empty", ())}, 5, [5])

    def test_the_start_object(self):
        first = ((), 0)
        bundles = {first: (first, "start", (), (), 0), name(4): (name(4), "Empty", (), (), 0)}
        self.assertEqual(goes_with(IMAGE, bundles, first), (first,))
        bundles[name(4)] = (name(4), "All", (("ref", first), NIL), (), 0)
        self.assertEqual(goes_with(IMAGE, bundles, name(4)), (first, name(4)))


class Lifted(unittest.TestCase):
    def test_lifted(self):
        frame = ((), 0, ("f", 0, (), ()), (), (0, 0), "")
        for count in (0, 1, 41):
            bundle = (name(5), "All", (NIL, 4), (frame,), count)
            self.assertEqual(lifted(bundle), (name(5), "All", (NIL, 4), (frame,), count + 1))
            self.assertEqual(bundle, (name(5), "All", (NIL, 4), (frame,), count))


if __name__ == "__main__":
    unittest.main()
