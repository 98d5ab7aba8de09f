import unittest

from portage.compiler import compile_program
from portage.errors import Missing
from portage.micro import first_fields, first_frame, micro, pushed
from portage.reader import read_program

MAX = 1000000000000
NIL = ("nil",)
ME = ((2,), 5)
REF = ("ref", ((0, 1), 3))
HELD = (10, NIL, REF)
FIELDS = (20, REF, 22)
# In front of the instruction that is tried stands code that is never made.
BEFORE = (("drop",),) * 3
AT = len(BEFORE)


def image_of(instruction):
    row = ("op", 1, 3, BEFORE + (instruction, ("return",)))
    other = ("op", 0, 0, (("push", 99), ("return",)))
    maker = ("M", 2, (22,), (), (("other", 0, 0, (("push", 98), ("return",))), row))
    return ((("L", 0, (), (), (other,)), maker), ("start", 0, 0, (("push", 97), ("return",))))


def tried(instruction, *stack):
    return micro(image_of(instruction), "M", ME, FIELDS, ("op", AT, HELD, stack))


def frame_of(*stack, at=AT + 1, held=HELD):
    return ("op", at, held, stack)


class Steps(unittest.TestCase):
    def next(self, instruction, stack, frame, fields=FIELDS):
        """What the instruction does, also with other values below it on the stack."""
        for below in ((), (7,), (NIL, REF, 0)):
            operation, at, held, behind = frame
            self.assertEqual(tried(instruction, *below, *stack), ("next", (operation, at, held, below + behind), fields))

    def faults(self, word, instruction, *stack):
        for below in ((), (7,), (NIL, REF, 0)):
            self.assertEqual(tried(instruction, *below, *stack), ("fault", word), (instruction, stack))

    def test_loads(self):
        self.next(("push", 0), (), frame_of(0))
        self.next(("push", MAX), (), frame_of(MAX))
        self.next(("nil",), (), frame_of(NIL))
        self.next(("self",), (), frame_of(("ref", ME)))
        for k in range(3):
            self.next(("local", k), (), frame_of(HELD[k]))
            self.next(("field", k), (), frame_of(FIELDS[k]))

    def test_sets(self):
        for value in (5, -MAX, NIL, REF):
            self.next(("setlocal", 0), (value,), frame_of(held=(value, NIL, REF)))
            self.next(("setlocal", 1), (value,), frame_of(held=(10, value, REF)))
            self.next(("setlocal", 2), (value,), frame_of(held=(10, NIL, value)))
            self.next(("setfield", 0), (value,), frame_of(), (value, REF, 22))
            self.next(("setfield", 1), (value,), frame_of(), (20, value, 22))
            self.next(("setfield", 2), (value,), frame_of(), (20, REF, value))
            self.next(("drop",), (value,), frame_of())

    def test_numbers(self):
        for left in (-3, 0, 2, 7):
            for right in (-5, 0, 2, 9):
                self.next(("add",), (left, right), frame_of(left + right))
                self.next(("sub",), (left, right), frame_of(left - right))
                self.next(("mul",), (left, right), frame_of(left * right))
        for left, right, less, most in ((1, 2, 1, 1), (2, 2, 0, 1), (3, 2, 0, 0), (-MAX, MAX, 1, 1), (0, -1, 0, 0)):
            self.next(("less",), (left, right), frame_of(less))
            self.next(("most",), (left, right), frame_of(most))

    def test_results_are_no_booleans(self):
        for instruction, stack in ((("less",), (1, 2)), (("most",), (1, 2)), (("same",), (1, 1)), (("not",), (0,)),
                                   (("less",), (2, 1)), (("most",), (2, 1)), (("same",), (1, 2)), (("not",), (5,))):
            self.assertIs(type(tried(instruction, *stack)[1][3][0]), int, instruction)

    def test_large(self):
        self.next(("add",), (MAX - 1, 1), frame_of(MAX))
        self.faults("large", ("add",), MAX, 1)
        self.next(("add",), (1 - MAX, -1), frame_of(-MAX))
        self.faults("large", ("add",), -MAX, -1)
        self.next(("sub",), (1 - MAX, 1), frame_of(-MAX))
        self.faults("large", ("sub",), -MAX, 1)
        self.next(("sub",), (MAX - 1, -1), frame_of(MAX))
        self.faults("large", ("sub",), MAX, -1)
        self.next(("mul",), (MAX // 2, 2), frame_of(MAX))
        self.faults("large", ("mul",), MAX // 2 + 1, 2)
        self.next(("mul",), (MAX // 2, -2), frame_of(-MAX))
        self.faults("large", ("mul",), MAX // 2 + 1, -2)
        self.faults("large", ("mul",), MAX, MAX)

    def test_number(self):
        for word in ("add", "sub", "mul", "less", "most"):
            for bad in (NIL, REF):
                self.faults("number", (word,), bad, 1)
                self.faults("number", (word,), 1, bad)
                self.faults("number", (word,), MAX, bad)
                self.faults("number", (word,), bad, bad)
        for bad in (NIL, REF):
            self.faults("number", ("not",), bad)
            self.faults("number", ("unless", 1), bad)

    def test_same(self):
        values = (0, 1, -1, MAX, NIL, REF, ("ref", ((0, 1), 4)), ("ref", ((0,), 3)), ("ref", ME))
        for k, left in enumerate(values):
            for m, right in enumerate(values):
                self.next(("same",), (left, right), frame_of(1 if k == m else 0))

    def test_not(self):
        for value, turned in ((0, 1), (1, 0), (-1, 0), (2, 0), (MAX, 0)):
            self.next(("not",), (value,), frame_of(turned))

    def test_jumps(self):
        for goal in (0, 1, AT, AT + 1, 77):
            self.next(("jump", goal), (), frame_of(at=goal))
            self.next(("unless", goal), (0,), frame_of(at=goal))
            for value in (1, -1, 2, MAX):
                self.next(("unless", goal), (value,), frame_of())

    def test_print(self):
        for value in (0, -5, NIL, REF):
            self.assertEqual(tried(("print",), 7, value), ("print", value, frame_of(7)))

    def test_return(self):
        for value in (0, -5, NIL, REF):
            self.assertEqual(tried(("return",), value), ("return", value))

    def test_new(self):
        self.assertEqual(tried(("new", "M", 0), 7, 8), ("new", "M", (), frame_of(7, 8)))
        self.assertEqual(tried(("new", "M", 0)), ("new", "M", (), frame_of()))
        self.assertEqual(tried(("new", "L", 1), 7, NIL), ("new", "L", (NIL,), frame_of(7)))
        self.assertEqual(tried(("new", "M", 3), 7, 1, REF, 3), ("new", "M", (1, REF, 3), frame_of(7)))

    def test_calls(self):
        for word in ("call", "fork"):
            self.assertEqual(tried((word, "get", 0), 7, REF), (word, REF[1], "get", (), frame_of(7)))
            self.assertEqual(tried((word, "get", 2), 7, REF, 1, NIL), (word, REF[1], "get", (1, NIL), frame_of(7)))
            self.assertEqual(tried((word, "op", 1), REF, ("ref", ME)), (word, REF[1], "op", (("ref", ME),), frame_of()))
            for bad in (NIL, 0, 5):
                self.faults("nil", (word, "get", 0), bad)
                self.faults("nil", (word, "get", 2), bad, REF, REF)

    def test_move(self):
        for number in (0, -1, 3, MAX):
            self.assertEqual(tried(("move",), 7, REF, number), ("move", REF[1], number, frame_of(7)))
            for bad in (NIL, 0, 5):
                self.faults("nil", ("move",), bad, number)
        for bad in (NIL, REF):
            for receiver in (REF, NIL, 4):
                self.faults("number", ("move",), receiver, bad)

    def test_the_start_block(self):
        image = image_of(("nil",))
        self.assertEqual(micro(image, "start", ((), 0), (), ("start", 0, (), ())), ("next", ("start", 1, (), (97,)), ()))
        self.assertEqual(micro(image, "L", ME, (), ("op", 0, (), ())), ("next", ("op", 1, (), (99,)), ()))
        self.assertEqual(micro(image, "M", ME, FIELDS, ("other", 0, (), ())), ("next", ("other", 1, (), (98,)), FIELDS))


class Beginnings(unittest.TestCase):
    def setUp(self):
        self.image = compile_program(read_program("""
            interface I { }
            maker M(n: int, i: I) {
              field a: int = -7; field b: I; field c: int;
              op f(k: int, j: I): int { let x: int = k; if x { let y: I = j; } return x; }
              op g(): int { return 1; }
            }
            maker N() { }
            maker O(n: int) { op f(): int { return n; } }
            start { let x: int = 1; let y: int = 2; return x; }"""))

    def test_first_frame(self):
        self.assertEqual(first_frame(self.image, "M", "f", (5, REF)), ("f", 0, (5, REF, 0, 0), ()))
        self.assertEqual(first_frame(self.image, "M", "g", ()), ("g", 0, (), ()))
        self.assertEqual(first_frame(self.image, "O", "f", ()), ("f", 0, (), ()))
        self.assertEqual(first_frame(self.image, "start", "start", ()), ("start", 0, (0, 0), ()))
        with self.assertRaises(Missing):
            first_frame(self.image, "M", "h", ())

    def test_first_fields(self):
        self.assertEqual(first_fields(self.image, "M", (3, REF)), (3, REF, -7, NIL, 0))
        self.assertEqual(first_fields(self.image, "N", ()), ())
        self.assertEqual(first_fields(self.image, "O", (NIL,)), (NIL,))
        with self.assertRaises(Missing):
            first_fields(self.image, "I", ())

    def test_pushed(self):
        frame = ("f", 4, (5, REF), (1, 2))
        self.assertEqual(pushed(frame, NIL), ("f", 4, (5, REF), (1, 2, NIL)))
        self.assertEqual(pushed(("f", 4, (), ()), -3), ("f", 4, (), (-3,)))
        self.assertEqual(frame, ("f", 4, (5, REF), (1, 2)))


if __name__ == "__main__":
    unittest.main()
