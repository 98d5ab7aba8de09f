import itertools
import random
import unittest

from portage.errors import Missing
from portage.kinds import conforms, relation
from portage.reader import read_program


def program(text):
    return read_program(text + " start { return 0; }")


class Conformity(unittest.TestCase):
    def pairs(self, text, *expected):
        """Besides each interface to itself, just these conform, written like "A B"."""
        tree = program(text)
        own = [(part[0], part[0]) for part in tree[0]]
        found = sorted(own + [tuple(pair.split()) for pair in expected])
        self.assertEqual(relation(tree), found, text)
        for name in [part[0] for part in tree[0] + tree[1]]:
            for goal in [part[0] for part in tree[0]]:
                self.assertIs(conforms(tree, name, goal), (name, goal) in found, (text, name, goal))

    def test_the_same_operations(self):
        self.pairs("interface A { f(): int; g(int): int; } interface B { g(int): int; f(): int; }", "A B", "B A")
        self.pairs("interface A { } interface B { }", "A B", "B A")
        self.pairs("")

    def test_one_more_and_one_less(self):
        self.pairs("interface A { f(): int; g(): int; } interface B { f(): int; } interface C { }",
                   "A B", "A C", "B C")

    def test_differences(self):
        self.pairs("interface A { f(): int; } interface B { g(): int; }")
        self.pairs("interface A { f(int): int; } interface B { f(): int; }")
        self.pairs("interface A { f(int, int): int; } interface B { f(int): int; }")
        self.pairs("interface E { } interface A { f(int): int; } interface B { f(E): int; }", "A E", "B E")
        self.pairs("interface E { } interface A { f(): int; } interface B { f(): E; }", "A E", "B E")

    def test_int_conforms_to_int_alone(self):
        self.pairs("interface E { } interface A { f(): int; h(E): int; } interface B { f(): E; h(int): int; }",
                   "A E", "B E")

    def test_parameters_the_other_way_round(self):
        self.pairs("interface S { f(): int; } interface E { } interface A { p(S): int; } interface B { p(E): int; }",
                   "S E", "A E", "B E", "B A")

    def test_results_in_the_same_way(self):
        self.pairs("interface S { f(): int; } interface E { } interface A { p(): S; } interface B { p(): E; }",
                   "S E", "A E", "B E", "A B")

    def test_parameters_of_parameters(self):
        self.pairs("interface S { f(): int; } interface E { } interface A { p(S): int; } interface B { p(E): int; }"
                   "interface C { q(A): int; } interface D { q(B): int; }",
                   "S E", "A E", "B E", "C E", "D E", "B A", "C D")

    def test_second_parameters(self):
        self.pairs("interface S { f(): int; } interface E { } interface A { p(int, S): S; } interface B { p(int, E): E; }",
                   "S E", "A E", "B E")

    def test_rings(self):
        self.pairs("interface A { f(A): A; } interface B { f(B): B; }", "A B", "B A")
        self.pairs("interface A { f(A): B; } interface B { f(B): A; }", "A B", "B A")
        self.pairs("interface A { f(): B; } interface B { f(): C; } interface C { f(): A; } interface D { f(): D; }",
                   "A B", "A C", "A D", "B A", "B C", "B D", "C A", "C B", "C D", "D A", "D B", "D C")
        self.pairs("interface A { f(): A; g(): int; } interface B { f(): B; }", "A B")
        self.pairs("interface A { f(A): int; g(): int; } interface B { f(B): int; }")
        self.pairs("interface A { f(A): int; g(): int; } interface B { f(A): int; }", "A B")

    def test_a_difference_behind_several_steps(self):
        chain = "".join([f"interface A{k} {{ f(): A{k + 1}; }} " for k in range(3)]) + "interface A3 { f(): A3; } "
        other = "".join([f"interface B{k} {{ f(): B{k + 1}; }} " for k in range(3)]) + "interface B3 { f(): int; }"
        names = [f"A{k}" for k in range(4)]
        self.pairs(chain + other, *[f"{a} {b}" for a in names for b in names if a != b])

    def test_makers(self):
        self.pairs("interface I { get(): int; } maker M(n: int) { op get(): int { } } maker N() { op get(): I { } } "
                   "maker O() { op get(): int { } op put(k: int): I { } } maker P() { op get(k: int): int { } }",
                   "M I", "O I")
        self.pairs("interface I { f(I): I; } interface E { } maker M() { op f(x: E): I { } } maker N() { op f(x: I): E { } }",
                   "I E", "M I", "M E", "N E")

    def test_missing(self):
        tree = program("interface I { } maker M() { }")
        for name, goal in (("X", "I"), ("I", "X"), ("I", "M"), ("M", "M"), ("int", "I"), ("I", "int"), ("X", "X")):
            with self.assertRaises(Missing, msg=(name, goal)):
                conforms(tree, name, goal)

    def test_ascending(self):
        tree = program("interface b { } interface a { } interface B { } maker C() { } maker c() { }")
        self.assertEqual(relation(tree), sorted(itertools.product(["b", "a", "B", "C", "c"], ["b", "a", "B"])))
        self.assertEqual(relation(tree)[0], ("B", "B"))

    def test_a_new_list(self):
        tree = program("interface I { }")
        relation(tree).append("x")
        self.assertEqual(relation(tree), [("I", "I")])


class AgainstSteps(unittest.TestCase):
    """Random interfaces, against the definition by finite rows of steps that tell two of them apart."""

    def interfaces(self, seed):
        choices = random.Random(seed)
        names = "ABCDEFGH"[:choices.randrange(2, 9)]
        kinds = list(names) + ["int"] * choices.randrange(3)

        def operation(name):
            return (name, tuple([choices.choice(kinds) for _ in range(choices.randrange(2))]), choices.choice(kinds))
        return tuple([(name, tuple([operation(o) for o in "fg" if choices.random() < 0.8])) for name in names])

    def apart(self, table, a, b, steps):
        """Whether a row of at most so many steps tells that a does not conform to b."""
        if a == "int" or b == "int":
            return a != b
        if steps == 0:
            return False
        for name, kinds, result in table[b]:
            mine = [part for part in table[a] if part[0] == name and len(part[1]) == len(kinds)]
            if not mine or self.apart(table, mine[0][2], result, steps - 1):
                return True
            if any(self.apart(table, theirs, own, steps - 1) for own, theirs in zip(mine[0][1], kinds)):
                return True
        return False

    def test_random_ones(self):
        for seed in range(150):
            interfaces = self.interfaces(seed)
            found = relation((interfaces, (), ()))
            table = dict(interfaces)
            for a, b in itertools.product(table, table):
                if (a, b) not in found:
                    self.assertTrue(any(self.apart(table, a, b, steps) for steps in range(1, 10)), (interfaces, a, b))
                else:
                    self.assertFalse(self.apart(table, a, b, 5), (interfaces, a, b))
                    for c in table:
                        if (b, c) in found:
                            self.assertIn((a, c), found)
                if a == b:
                    self.assertIn((a, b), found)
            shuffled = list(interfaces)
            random.Random(seed).shuffle(shuffled)
            self.assertEqual(relation((tuple(shuffled), (), ())), found)


if __name__ == "__main__":
    unittest.main()
