"""What holds of all good programs, tried with random ones in random orders."""

import random
import unittest

from portage.checks import check_program
from portage.code import heights
from portage.compiler import compile_program, maker_of, row_of
from portage.plain import begin, finish, ready, run, step
from portage.reader import read_program
from portage.trees import check_tree
from tests.goods import Goods
from tests.walker import Endless, Walker

# Each process has an object of its own.
ALONE = """
interface W { go(int): W; }
maker M(n: int) {
  field kept: W;
  op go(k: int): W {
    let i: int = 0;
    while i < k { let w: W = new M(k); fork w.go(k - 1); kept = w; i = i + 1; print i; print n; print k; print 1; print 2; }
    return new M(k);
  }
}
start { fork new M(1).go(2); fork new M(2).go(3); fork new M(3).go(2); new M(7).go(1); return 0; }
"""


def random_steps(image, state, chance, many):
    """The states and the order of a run in which processes are drawn, each for a few steps."""
    states = [state]
    order = []
    while len(order) < many and ready(states[-1]):
        process = chance.choice(ready(states[-1]))
        for _ in range(chance.choice([1, 1, 2, 10])):
            if process in ready(states[-1]):
                states.append(step(image, states[-1], process))
                order.append(process)
    return states, order


class GoodPrograms(unittest.TestCase):
    def image(self, seed, forks):
        program = Goods(seed, forks).program()
        check_tree(program)
        check_program(program)
        return compile_program(program)

    def test_only_nil_and_large(self):
        met = {}
        for seed in range(150):
            image = self.image(seed, True)
            chance = random.Random(seed)
            states, _ = random_steps(image, begin(image), chance, 300)
            for state in (states[-1], finish(image, begin(image), 2000)[0], finish(image, states[-1], 500)[0]):
                for _, _, status, frames in state[1]:
                    self.assertIn(status[0], ("run", "done", "fault"))
                    self.assertEqual(frames == (), status[0] == "done")
                    if status[0] == "fault":
                        self.assertIn(status[1], ("nil", "large"))
                    met[status[:1] if status[0] == "done" else status] = True
        self.assertEqual(sorted(met), [("done",), ("fault", "large"), ("fault", "nil"), ("run",)])

    def test_heights(self):
        for seed in range(60):
            image = self.image(seed, True)
            known = {}
            states, _ = random_steps(image, begin(image), random.Random(seed), 120)
            for state in states:
                makers = {name: (maker, fields) for name, maker, fields in state[0]}
                for _, _, status, frames in state[1]:
                    for at, (owner, frame) in enumerate(frames):
                        maker, fields = makers[owner]
                        if (maker, frame[0]) not in known:
                            _, _, locals_many, code = row_of(image, maker, frame[0])
                            many = maker_of(image, maker)[1] + len(maker_of(image, maker)[2])
                            known[(maker, frame[0])] = (heights(code, locals_many, many), locals_many, many)
                        found, locals_many, many = known[(maker, frame[0])]
                        # What waits will get the value that the call returns.
                        waits = 0 if at == len(frames) - 1 else 1
                        self.assertEqual(len(frame[3]) + waits, found[frame[1]])
                        self.assertEqual((len(frame[2]), len(fields)), (locals_many, many))

    def test_walks_over_the_tree(self):
        ends = {}
        for seed in range(400):
            program = Goods(seed, False).program()
            walker = Walker(program, 4000)
            try:
                status = walker.run()
            except Endless:
                continue
            image = compile_program(program)
            objects, processes, prints = finish(image, begin(image), 100000)[0]
            self.assertEqual([process[0] for process in processes], [()])
            self.assertEqual(processes[0][2], status)
            self.assertEqual(processes[0][1], (len(objects), 0))
            self.assertEqual(prints, tuple(walker.prints))
            self.assertEqual(objects, walker.rows())
            end = status if status[0] == "fault" else status[:1]
            ends[end] = ends.get(end, 0) + 1
        self.assertGreater(min(ends.values()), 10)
        self.assertEqual(len(ends), 3)
        self.assertGreater(sum(ends.values()), 300)

    def test_pairs_of_steps(self):
        met = {"apart": 0, "together": 0, "prints": 0}
        images = [self.image(seed, True) for seed in range(70)] + [compile_program(read_program(ALONE))] * 10
        for seed, image in enumerate(images):
            states, _ = random_steps(image, begin(image), random.Random(seed), 120)
            for state in states:
                chosen = ready(state)[:4]
                for one in chosen:
                    for other in chosen:
                        if one < other:
                            self.pair(image, state, one, other, met)
        self.assertGreater(min(met.values()), 10, met)

    def pair(self, image, state, one, other, met):
        owners = {process[0]: process[3][-1][0] for process in state[1] if process[3]}
        words = [self.word(image, state, name) for name in (one, other)]
        if owners[one] == owners[other] and "setfield" in words:
            return
        first = run(image, state, (one, other))
        second = run(image, state, (other, one))
        self.assertEqual(first[:2], second[:2])
        if words == ["print", "print"]:
            met["prints"] += 1
            self.assertEqual(sorted(first[2], key=repr), sorted(second[2], key=repr))
        else:
            self.assertEqual(first[2], second[2])
        met["together" if owners[one] == owners[other] else "apart"] += 1

    def word(self, image, state, name):
        """The word of the next instruction of a process."""
        makers = {row[0]: row[1] for row in state[0]}
        owner, frame = [process[3][-1] for process in state[1] if process[0] == name][0]
        return row_of(image, makers[owner], frame[0])[3][frame[1]][0]

    def test_names_do_not_depend_on_the_order(self):
        """Where processes share no fields, the objects and processes are the same whatever the order."""
        image = compile_program(read_program(ALONE))
        expected = finish(image, begin(image), 1000)[0]
        for seed in range(20):
            states, _ = random_steps(image, begin(image), random.Random(seed), 2000)
            self.assertEqual(states[-1][:2], expected[:2])
            self.assertEqual(sorted(states[-1][2]), sorted(expected[2]))


if __name__ == "__main__":
    unittest.main()
