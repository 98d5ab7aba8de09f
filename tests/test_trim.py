import random
import unittest

from portage.compiler import compile_program
from portage.plain import begin, ready, run, step
from portage.trim import reached, references, trim
from tests.goods import Goods

NIL = ("nil",)
RUN = ("run",)


def name(k):
    return ((), k)


def ref(k):
    return ("ref", name(k))


def state_of(links, processes, prints=()):
    """A state with an object for each key of the dict, whose fields refer to these others."""
    objects = tuple([(name(k), "M", (5,) + tuple([ref(other) for other in links[k]]) + (NIL,)) for k in sorted(links)])
    return objects, processes, prints


def process(k, status, *frames):
    """A process; each frame is given by its object, and what its locals and its stack refer to."""
    rows = [(name(owner), ("op", 0, (3,) + tuple([ref(n) for n in held]), tuple([ref(n) for n in stack]) + (NIL,)))
            for owner, held, stack in frames]
    return ((k,), (0, 0), status, tuple(rows))


class References(unittest.TestCase):
    def test_none(self):
        self.assertEqual(references([]), [])
        self.assertEqual(references(()), [])
        self.assertEqual(references([0, -5, NIL, 10 ** 12]), [])

    def test_ascending_and_once(self):
        values = [ref(5), 3, ("ref", ((1,), 0)), NIL, ref(0), ref(5), ("ref", ((0, 7), 2)), ref(10), ref(0)]
        kept = list(values)
        expected = [name(0), name(5), name(10), ((0, 7), 2), ((1,), 0)]
        self.assertEqual(references(values), expected)
        self.assertEqual(references(tuple(values)), expected)
        self.assertEqual(values, kept)


class Reached(unittest.TestCase):
    def reach(self, links, processes, expected):
        state = state_of(links, processes)
        self.assertEqual(reached(state), [name(k) for k in expected])
        objects = tuple([row for row in state[0] if row[0] in [name(k) for k in expected]])
        self.assertEqual(trim(state), (objects, processes, ()))

    def test_owners(self):
        self.reach({0: [], 1: [], 2: []}, (process(0, RUN, (1, [], [])),), [1])
        self.reach({0: [], 1: [], 2: []}, (process(0, RUN, (2, [], []), (1, [], [])),), [1, 2])

    def test_locals_and_stacks(self):
        self.reach({0: [], 1: [], 2: [], 3: []}, (process(0, RUN, (1, [3], [])),), [1, 3])
        self.reach({0: [], 1: [], 2: [], 3: []}, (process(0, RUN, (1, [], [0])),), [0, 1])
        self.reach({0: [], 1: [], 2: [], 3: []}, (process(0, RUN, (1, [0], []), (1, [], [2])),), [0, 1, 2])

    def test_statuses(self):
        self.reach({0: [], 1: []}, (process(0, ("fault", "nil"), (1, [], [])),), [1])
        self.reach({0: [], 1: [], 2: []}, (process(0, ("fault", "large"), (1, [2], []), (1, [], [])),), [1, 2])
        self.reach({0: [], 1: []}, (process(0, ("done", ref(1))),), [])
        self.reach({0: [], 1: [], 2: []}, (process(0, ("done", ref(1))), process(1, RUN, (2, [], []))), [2])

    def test_fields(self):
        self.reach({0: [1], 1: [2, 3], 2: [], 3: [5], 4: [0], 5: []}, (process(0, RUN, (0, [], [])),), [0, 1, 2, 3, 5])
        self.reach({0: [1], 1: [2, 3], 2: [], 3: [5], 4: [0], 5: []}, (process(0, RUN, (3, [2], [])),), [2, 3, 5])

    def test_rings(self):
        self.reach({0: [1], 1: [2], 2: [0], 3: [4], 4: [3], 5: [5]}, (process(0, RUN, (1, [], [])),), [0, 1, 2])
        self.reach({0: [1], 1: [2], 2: [0], 3: [4], 4: [3], 5: [5]}, (process(0, RUN, (5, [], [4])),), [3, 4, 5])

    def test_long_chain(self):
        links = {k: [k + 1] for k in range(3000)}
        links[3000] = []
        self.reach(links, (process(0, RUN, (0, [], [])),), range(3001))

    def test_none(self):
        self.reach({0: [1], 1: []}, (), [])
        self.assertEqual(trim(((), (), ())), ((), (), ()))

    def test_prints_and_values_stay(self):
        state = state_of({0: [], 1: [], 2: []}, (process(0, ("done", ref(1))), process(1, RUN, (0, [], []))),
                         (((), ref(2)), ((0,), 4)))
        self.assertEqual(reached(state), [name(0)])
        self.assertEqual(trim(state), (state[0][:1], state[1], state[2]))

    def test_the_beginning(self):
        state = begin(((), ("start", 0, 0, (("push", 1), ("return",)))))
        self.assertEqual(reached(state), [name(0)])
        self.assertEqual(trim(state), state)


class TrimmedRuns(unittest.TestCase):
    def test_random_runs(self):
        left_out = 0
        for seed in range(60):
            image = compile_program(Goods(seed, True).program())
            chance = random.Random(seed)
            state = begin(image)
            for _ in range(chance.randrange(200)):
                if ready(state):
                    state = step(image, state, chance.choice(ready(state)))
            trimmed = trim(state)
            self.assertEqual(trim(trimmed), trimmed)
            self.assertEqual(reached(trimmed), reached(state))
            self.assertEqual([row[0] for row in trimmed[0]], reached(state))
            left_out += len(state[0]) - len(trimmed[0])
            order = []
            last = state
            for _ in range(60):
                if ready(last):
                    order.append(chance.choice(ready(last)))
                    last = step(image, last, order[-1])
            self.assertEqual(trim(run(image, trimmed, order)), trim(last))
        self.assertGreater(left_out, 50)


if __name__ == "__main__":
    unittest.main()
