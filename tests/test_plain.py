import unittest

from portage.compiler import compile_program
from portage.errors import Missing, NotAllowed
from portage.plain import begin, finish, ready, run, step
from portage.reader import read_program

NIL = ("nil",)
FIRST = ((), 0)
BOX = ((3,), 2)
TO_BOX = ("ref", BOX)


def compiled(text):
    return compile_program(read_program(text))


def state_of(code, held, stack, fields=(5, NIL), at=0, frames=(), others=(), token=(4, 2), prints=()):
    """An image and a state in which the process (1,) makes the instructions of the code, in the object BOX."""
    rows = (("op", 1, len(held), code), ("get", 2, 4, (("push", 1), ("return",))))
    maker = ("M", 1, (8, NIL), (), rows)
    process = ((1,), token, ("run",), frames + ((BOX, ("op", at, held, stack)),))
    objects = ((FIRST, "start", ()), (BOX, "M", fields))
    return ((maker,), ("start", 0, 0, ())), (objects, tuple(sorted(others + (process,))), prints)


class Beginning(unittest.TestCase):
    def test_begin(self):
        self.assertEqual(begin(compiled("start { return 1; }")), (
            ((FIRST, "start", ()),), (((), (1, 0), ("run",), ((FIRST, ("start", 0, (), ())),)),), ()))
        self.assertEqual(begin(compiled("maker M(n: int) { } start { let x: int = 1; if x { let y: int = 2; } return x; }")), (
            ((FIRST, "start", ()),), (((), (1, 0), ("run",), ((FIRST, ("start", 0, (0, 0), ())),)),), ()))

    def test_examples(self):
        image = compiled("start { print 2 + 3; return 1 < 0; }")
        self.assertEqual(run(image, begin(image), [()] * 3), (
            ((((), 0), 'start', ()),), (((), (1, 0), ('run',), ((((), 0), ('start', 3, (), (5,))),)),), ()))
        self.assertEqual(finish(image, begin(image), 100)[0], (
            ((((), 0), 'start', ()),), (((), (1, 0), ('done', 0), ()),), (((), 5),)))

    def test_ready(self):
        rows = [((), (1, 0), ("done", 3), ()), ((0,), (1, 0), ("run",), ()), ((0, 0), (1, 0), ("fault", "nil"), ()),
                ((0, 1), (1, 0), ("run",), ()), ((0, 10), (1, 0), ("run",), ()), ((1,), (1, 0), ("run",), ()),
                ((2,), (0, 0), ("done", ("ref", FIRST)), ())]
        self.assertEqual(ready(((), tuple(rows), ())), [(0,), (0, 1), (0, 10), (1,)])
        self.assertEqual(ready(((), tuple(rows[:1]), ())), [])
        self.assertEqual(ready(((), (), ())), [])


class Steps(unittest.TestCase):
    def stepped(self, code, held, stack, **more):
        image, state = state_of(code, held, stack, **more)
        kept = repr(state)
        found = step(image, state, (1,))
        self.assertEqual(repr(state), kept)
        self.assertEqual(run(image, state, [(1,)]), found)
        return state, found

    def frame(self, *frame):
        return ((1,), (4, 2), ("run",), ((BOX, frame),))

    def test_within_the_frame(self):
        for code, stack, frame in (
            ((("push", 6),), (2,), ("op", 1, (9,), (2, 6))),
            ((("self",),), (), ("op", 1, (9,), (TO_BOX,))),
            ((("field", 0),), (), ("op", 1, (9,), (5,))),
            ((("setlocal", 0),), (2, NIL), ("op", 1, (NIL,), (2,))),
            ((("drop",),), (2, 3), ("op", 1, (9,), (2,))),
            ((("mul",),), (2, 3), ("op", 1, (9,), (6,))),
            ((("jump", 7),), (2,), ("op", 7, (9,), (2,))),
            ((("unless", 7),), (2, 0), ("op", 7, (9,), (2,))),
        ):
            state, found = self.stepped(code, (9,), stack)
            self.assertEqual(found, (state[0], (self.frame(*frame),), ()))

    def test_setfield(self):
        state, found = self.stepped((("drop",), ("setfield", 1)), (9,), (2, TO_BOX), at=1)
        self.assertEqual(found, ((state[0][0], (BOX, "M", (5, TO_BOX))), (self.frame("op", 2, (9,), (2,)),), ()))

    def test_print(self):
        state, found = self.stepped((("print",),), (), (2, NIL), prints=(((), 7), ((1,), 3)))
        self.assertEqual(found, (state[0], (self.frame("op", 1, (), (2,)),), (((), 7), ((1,), 3), ((1,), NIL))))

    def test_move(self):
        state, found = self.stepped((("move",),), (9,), (2, TO_BOX, 1))
        self.assertEqual(found, (state[0], (self.frame("op", 1, (9,), (2,)),), ()))

    def test_new(self):
        state, found = self.stepped((("new", "M", 2),), (9,), (2, 3, TO_BOX))
        made = ((1,), 4)
        process = ((1,), (5, 2), ("run",), ((BOX, ("op", 1, (9,), (2, ("ref", made)))),))
        self.assertEqual(found, ((state[0][0], (made, "M", (3, TO_BOX, 8, NIL)), state[0][1]), (process,), ()))

    def test_call(self):
        state, found = self.stepped((("call", "get", 2),), (9,), (2, TO_BOX, 3, NIL))
        frames = ((BOX, ("op", 1, (9,), (2,))), (BOX, ("get", 0, (3, NIL, 0, 0), ())))
        self.assertEqual(found, (state[0], (((1,), (4, 2), ("run",), frames),), ()))

    def test_call_from_the_last_frame(self):
        below = ((FIRST, ("start", 3, (), (4,))), (BOX, ("op", 2, (NIL,), ())))
        state, found = self.stepped((("call", "get", 2),), (9,), (TO_BOX, 3, NIL), frames=below)
        frames = below + ((BOX, ("op", 1, (9,), ())), (BOX, ("get", 0, (3, NIL, 0, 0), ())))
        self.assertEqual(found, (state[0], (((1,), (4, 2), ("run",), frames),), ()))

    def test_fork(self):
        state, found = self.stepped((("fork", "get", 2),), (9,), (2, TO_BOX, 3, NIL))
        process = ((1,), (4, 3), ("run",), ((BOX, ("op", 1, (9,), (2,))),))
        forked = ((1, 2), (0, 0), ("run",), ((BOX, ("get", 0, (3, NIL, 0, 0), ())),))
        self.assertEqual(found, (state[0], (process, forked), ()))

    def test_return(self):
        below = ((FIRST, ("start", 3, (), (4,))), (BOX, ("op", 2, (NIL,), (6,))))
        state, found = self.stepped((("return",),), (9,), (TO_BOX,), frames=below)
        frames = (below[0], (BOX, ("op", 2, (NIL,), (6, TO_BOX))))
        self.assertEqual(found, (state[0], (((1,), (4, 2), ("run",), frames),), ()))

    def test_last_return(self):
        state, found = self.stepped((("return",),), (9,), (TO_BOX,))
        self.assertEqual(found, (state[0], (((1,), (4, 2), ("done", TO_BOX), ()),), ()))

    def test_faults(self):
        below = ((FIRST, ("start", 3, (), (4,))),)
        for instruction, stack, word in (
            (("add",), (2, NIL), "number"),
            (("not",), (TO_BOX,), "number"),
            (("unless", 0), (NIL,), "number"),
            (("sub",), (-10 ** 12, 1), "large"),
            (("call", "get", 2), (NIL, 1, 2), "nil"),
            (("fork", "get", 2), (3, 1, 2), "nil"),
            (("move",), (NIL, 2), "nil"),
            (("move",), (NIL, NIL), "number"),
        ):
            state, found = self.stepped((instruction,), (9,), stack, frames=below, prints=(((), 1),))
            frames = below + ((BOX, ("op", 0, (9,), stack)),)
            self.assertEqual(found, (state[0], (((1,), (4, 2), ("fault", word), frames),), (((), 1),)))

    def test_other_processes_stay(self):
        others = (((), (1, 0), ("run",), ((FIRST, ("start", 3, (), (4,))),)), ((1, 5), (0, 0), ("done", 4), ()),
                  ((7,), (0, 0), ("fault", "nil"), ((BOX, ("op", 0, (), ())),)))
        image, state = state_of((("fork", "get", 2),), (), (TO_BOX, 3, NIL), others=others)
        found = step(image, state, (1,))
        self.assertEqual([process[0] for process in found[1]], [(), (1,), (1, 2), (1, 5), (7,)])
        self.assertEqual((found[1][0],) + found[1][3:], others)

    def test_none_to_step(self):
        others = (((0,), (0, 0), ("done", 4), ()), ((2,), (0, 0), ("fault", "nil"), ((BOX, ("op", 0, (), ())),)))
        image, state = state_of((("nil",),), (), (), others=others)
        for name in ((), (0, 0), (1, 0), (3,)):
            with self.assertRaises(Missing):
                step(image, state, name)
            with self.assertRaises(Missing):
                run(image, state, [(1,), name])
        for name in ((0,), (2,)):
            with self.assertRaises(NotAllowed):
                step(image, state, name)
            with self.assertRaises(NotAllowed):
                run(image, state, [(1,), name])


FORKS = """
interface W { go(int): int; }
maker M(me: int) {
  field k: int;
  op go(n: int): int {
    print n;
    if 0 < n { fork self.go(n - 1); }
    k = k + 1;
    return k * 10 + n;
  }
}
start { let m: W = new M(4); fork m.go(2); fork m.go(0); print 100; return m.go(0); }
"""


class Runs(unittest.TestCase):
    def setUp(self):
        self.image = compiled(FORKS)
        self.first = begin(self.image)

    def test_empty(self):
        self.assertEqual(run(self.image, self.first, []), self.first)
        self.assertEqual(run(self.image, self.first, ()), self.first)

    def test_lists_and_tuples(self):
        order = list(finish(self.image, self.first, 100)[1])
        kept = list(order)
        self.assertEqual(run(self.image, self.first, order), finish(self.image, self.first, 100)[0])
        self.assertEqual(run(self.image, self.first, tuple(order)), run(self.image, self.first, order))
        self.assertEqual(order, kept)

    def test_in_two_parts(self):
        order = finish(self.image, self.first, 200)[1]
        whole = run(self.image, self.first, order)
        for k in range(len(order) + 1):
            half = run(self.image, self.first, order[:k])
            self.assertEqual(run(self.image, half, order[k:]), whole)
            self.assertEqual(finish(self.image, self.first, k), (half, order[:k]))

    def test_the_first_error(self):
        state = finish(self.image, self.first, 200)[0]
        for order, error in (([(), (0,)], NotAllowed), ([(9,), ()], Missing)):
            with self.assertRaises(error):
                run(self.image, state, order)

    def test_the_end(self):
        state, order = finish(self.image, self.first, 1000)
        self.assertEqual(ready(state), [])
        self.assertEqual([row[:2] for row in state[0]], [(FIRST, "start"), (((), 1), "M")])
        self.assertEqual([process[:2] for process in state[1]],
                         [((), (2, 2)), ((0,), (0, 1)), ((0, 0), (0, 1)), ((0, 0, 0), (0, 0)), ((1,), (0, 0))])
        self.assertEqual(sorted([value for _, value in state[2]]), [0, 0, 0, 1, 2, 100])
        self.assertEqual(finish(self.image, self.first, len(order)), (state, order))
        self.assertEqual(finish(self.image, state, 50), (state, ()))

    def test_one_after_another(self):
        state = self.first
        while ready(state):
            state = step(self.image, state, ready(state)[0])
        self.assertEqual(state[0], ((FIRST, "start", ()), (((), 1), "M", (4, 5))))
        self.assertEqual(state[2], (((), 100), ((), 0), ((0,), 2), ((0, 0), 1), ((0, 0, 0), 0), ((1,), 0)))
        self.assertEqual([process[2] for process in state[1]],
                         [("done", 10), ("done", 22), ("done", 31), ("done", 40), ("done", 50)])

    def test_limits(self):
        self.assertEqual(finish(self.image, self.first, 0), (self.first, ()))
        whole = finish(self.image, self.first, 1000)[1]
        for limit in (1, 2, 9, 10, 11, 30, len(whole) - 1):
            state, order = finish(self.image, self.first, limit)
            self.assertEqual(order, whole[:limit])
            self.assertEqual(state, run(self.image, self.first, order))

    def test_turns(self):
        whole = finish(self.image, self.first, 1000)[1]
        state = self.first
        expected = []
        while ready(state):
            turn = ready(state)
            expected.extend(turn)
            state = run(self.image, state, turn)
        self.assertEqual(whole, tuple(expected))

    def test_forked_within_a_turn(self):
        image = compiled("maker M() { op go(): int { return 7; } } start { fork new M().go(); print 1; return 2; }")
        a, b = (), (0,)
        self.assertEqual(finish(image, begin(image), 100)[1], (a, a, a, b, a, b, a, a))
        self.assertEqual(finish(image, begin(image), 4)[1], (a, a, a, b))

    def test_endless(self):
        image = compiled("start { while 1 { } return 2; }")
        state, order = finish(image, begin(image), 100)
        self.assertEqual(order, ((),) * 100)
        self.assertEqual(ready(state), [()])

    def test_deep_calls(self):
        image = compiled("maker M() { op f(n: int): int { if n { return self.f(n - 1) + 1; } return 0; } } "
                         "start { return new M().f(2000); }")
        state, order = finish(image, begin(image), 100000)
        self.assertEqual(state[1], (((), (2, 0), ("done", 2000), ()),))


if __name__ == "__main__":
    unittest.main()
