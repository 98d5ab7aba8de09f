import unittest

from portage import trees
from portage.errors import NotAllowed, TooLarge
from portage.trees import check_tree, count_nodes, depth_of, is_name
from tests.samples import CELL, Choices, EVERY_EXPRESSION, EVERY_STATEMENT, PROGRAM


def with_start(*statements):
    return ((), (), statements)


def with_expression(expression):
    return with_start(("do", expression))


def sums(depth):
    """An expression of this depth with one more expression at each level."""
    found = ("int", 1)
    for _ in range(depth - 1):
        found = ("add", found, ("int", 1))
    return found


def interface(name="I", operations=()):
    return ((name, operations),), (), ()


def maker(name="M", params=(), fields=(), operations=()):
    return (), ((name, params, fields, operations),), ()


class Constants(unittest.TestCase):
    def test_values(self):
        self.assertEqual(trees.MAX_NUMBER, 10 ** 12)
        self.assertEqual((trees.MAX_PARTS, trees.MAX_NODES, trees.MAX_DEPTH), (8, 600, 30))

    def test_words(self):
        words = ("interface maker attached field op let if else while return print move to fork nil self new and or "
                 "not int start")
        self.assertEqual(trees.WORDS, tuple(words.split()))


class Names(unittest.TestCase):
    def test_names(self):
        for text in ("a", "Z", "x1", "abcdefghijkl", "ABCDEFGHIJ12", "starts", "Int", "iF", "le"):
            self.assertIs(is_name(text), True, text)

    def test_no_names(self):
        for text in ("", "abcdefghijklm", "1a", "1", "a_b", "a b", " a", "a\n", "a.", "-", "a-", "p#", "\u00e9", "a\u00b2"):
            self.assertIs(is_name(text), False, text)

    def test_words(self):
        for word in trees.WORDS:
            self.assertIs(is_name(word), False, word)
            self.assertIs(is_name(word + "1"), True, word)


class GoodTrees(unittest.TestCase):
    def test_every_kind_of_part(self):
        self.assertIsNone(check_tree(PROGRAM))
        self.assertIsNone(check_tree(((), (), ())))
        for expression in EVERY_EXPRESSION:
            self.assertIsNone(check_tree(with_expression(expression)))
        for statement in EVERY_STATEMENT:
            self.assertIsNone(check_tree(with_start(statement)))

    def test_random_ones(self):
        for seed in range(60):
            self.assertIsNone(check_tree(Choices(seed).program(4)))

    def test_kinds_are_checked_elsewhere(self):
        self.assertIsNone(check_tree(interface("I", (("f", ("Unknown",), "Other"), ("f", (), "int")))))


class SpoiltTrees(unittest.TestCase):
    def refuse(self, program):
        with self.assertRaises(NotAllowed, msg=repr(program)):
            check_tree(program)

    def test_programs(self):
        for program in ((), ((), ()), ((), (), (), ()), ("", (), ()), ((), "", ()), ((), (), ""), (0, (), ()),
                        ((), (), 5), ((), (), ((),)), ((), ((),), ()), (((),), (), ())):
            self.refuse(program)

    def test_names(self):
        for bad in ("", "1a", "abcdefghijklm", "if", "int", "a b", 1, True, (), ("a",)):
            self.refuse(interface(bad))
            self.refuse(interface("I", ((bad, (), "int"),)))
            self.refuse(maker(bad))
            self.refuse(maker("M", ((False, bad, "int"),)))
            self.refuse(maker("M", (), ((False, bad, "int", 0),)))
            self.refuse(maker("M", (), (), ((bad, (), "int", ()),)))
            self.refuse(maker("M", (), (), (("f", ((bad, "int"),), "int", ()),)))
            self.refuse(with_start(("let", bad, "int", ("int", 1))))
            self.refuse(with_start(("set", bad, ("int", 1))))
            self.refuse(with_start(("fork", ("nil",), bad, ())))
            self.refuse(with_expression(("name", bad)))
            self.refuse(with_expression(("call", ("nil",), bad, ())))
            self.refuse(with_expression(("new", bad, ())))

    def test_kinds(self):
        for bad in ("", "1a", "abcdefghijklm", "if", "start", "nil", 1, False, (), ("int",)):
            self.refuse(interface("I", (("f", (bad,), "int"),)))
            self.refuse(interface("I", (("f", (), bad),)))
            self.refuse(maker("M", ((False, "p", bad),)))
            self.refuse(maker("M", (), ((False, "p", bad, 0),)))
            self.refuse(maker("M", (), (), (("f", (("p", bad),), "int", ()),)))
            self.refuse(maker("M", (), (), (("f", (), bad, ()),)))
            self.refuse(with_start(("let", "x", bad, ("int", 1))))

    def test_lengths(self):
        for expression in EVERY_EXPRESSION:
            self.refuse(with_expression(expression[:-1]))
            self.refuse(with_expression(expression + (("int", 1),)))
        for statement in EVERY_STATEMENT:
            self.refuse(with_start(statement[:-1]))
            self.refuse(with_start(statement + (("int", 1),)))
        self.refuse(((("I",),), (), ()))
        self.refuse(((("I", (), ()),), (), ()))
        for operation in (("f", ()), ("f", (), "int", ())):
            self.refuse(interface("I", (operation,)))
        for parts in (CELL[:3], CELL + ((),)):
            self.refuse(((), (parts,), ()))
        for param in ((True, "p"), ("p", "int"), (True, "p", "int", 0)):
            self.refuse(maker("M", (param,)))
        for field in ((True, "p", "int"), (True, "p", "int", 0, 0)):
            self.refuse(maker("M", (), (field,)))
        for operation in (("f", (), "int"), ("f", (), "int", (), ())):
            self.refuse(maker("M", (), (), (operation,)))
        for param in (("p",), ("p", "int", "int"), (False, "p", "int")):
            self.refuse(maker("M", (), (), (("f", (param,), "int", ()),)))

    def test_first_words(self):
        for bad in ("", "neg", "Int", "block", "statement", 1, True, (), ("int",)):
            self.refuse(with_expression((bad, ("int", 1))))
            self.refuse(with_expression((bad, 1)))
            self.refuse(with_start((bad, ("int", 1))))

    def test_numbers(self):
        for bad in (-1, 1000000000001, True, False, "1", (), ("int", 1)):
            self.refuse(with_expression(("int", bad)))
        for bad in (-1000000000001, 1000000000001, True, False, "0", ()):
            self.refuse(maker("M", (), ((False, "f", "int", bad),)))
        for bad in (1, -1, False, "0", ()):
            self.refuse(maker("M", (), ((False, "f", "Box", bad),)))
        self.assertIsNone(check_tree(maker("M", (), ((False, "f", "int", -1000000000000),))))
        self.assertIsNone(check_tree(maker("M", (), ((False, "f", "Box", 0),))))

    def test_true_and_false(self):
        for bad in (0, 1, "True", "", ()):
            self.refuse(maker("M", ((bad, "p", "int"),)))
            self.refuse(maker("M", (), ((bad, "p", "int", 0),)))

    def test_texts_for_tuples(self):
        for bad in ("", "ab", 0, True):
            self.refuse(interface("I", bad))
            self.refuse(interface("I", (("f", bad, "int"),)))
            self.refuse(interface("I", (bad,)))
            self.refuse(maker("M", bad))
            self.refuse(maker("M", (bad,)))
            self.refuse(maker("M", (), bad))
            self.refuse(maker("M", (), (bad,)))
            self.refuse(maker("M", (), (), bad))
            self.refuse(maker("M", (), (), (bad,)))
            self.refuse(maker("M", (), (), (("f", bad, "int", ()),)))
            self.refuse(maker("M", (), (), (("f", (bad,), "int", ()),)))
            self.refuse(maker("M", (), (), (("f", (), "int", bad),)))
            self.refuse(with_start(bad))
            self.refuse(with_start(("if", ("int", 1), bad, ())))
            self.refuse(with_start(("if", ("int", 1), (), bad)))
            self.refuse(with_start(("while", ("int", 1), bad)))
            self.refuse(with_start(("fork", ("nil",), "f", bad)))
            self.refuse(with_expression(bad))
            self.refuse(with_expression(("not", bad)))
            self.refuse(with_expression(("call", ("nil",), "f", bad)))
            self.refuse(with_expression(("new", "M", bad)))

    def test_statements_and_expressions_are_not_exchanged(self):
        for statement in EVERY_STATEMENT:
            self.refuse(with_expression(statement))
            self.refuse(with_expression(("not", statement)))
            self.refuse(with_expression(("new", "M", (statement,))))
        for expression in EVERY_EXPRESSION:
            self.refuse(with_start(expression))
            self.refuse(with_start(("while", ("int", 1), (expression,))))
            self.refuse(with_start(("if", ("int", 1), (), (expression,))))

    def test_spoilt_deep_inside(self):
        for bad in (("int", -1), ("name", "if"), ("do", ("int", 1)), "x"):
            expression = bad
            for _ in range(25):
                expression = ("add", ("int", 1), expression)
            self.refuse(maker("M", (), (), (("f", (), "int", (("while", ("int", 1), (("do", expression),)),)),)))


class Limits(unittest.TestCase):
    def both(self, make):
        """Eight parts are taken, nine are not; `make` takes the list of the numbers of the parts."""
        self.assertIsNone(check_tree(make(range(8))))
        with self.assertRaises(NotAllowed):
            check_tree(make(range(9)))

    def test_parts(self):
        self.both(lambda ks: (tuple([(f"I{k}", ()) for k in ks]), (), ()))
        self.both(lambda ks: ((), tuple([(f"M{k}", (), (), ()) for k in ks]), ()))
        self.both(lambda ks: interface("I", tuple([(f"f{k}", (), "int") for k in ks])))
        self.both(lambda ks: interface("I", (("f", tuple(["int" for _ in ks]), "int"),)))
        self.both(lambda ks: maker("M", (), (), tuple([(f"f{k}", (), "int", ()) for k in ks])))
        self.both(lambda ks: maker("M", tuple([(False, f"p{k}", "int") for k in ks])))
        self.both(lambda ks: maker("M", (), tuple([(False, f"p{k}", "int", 0) for k in ks])))
        self.both(lambda ks: maker("M", (), (), (("f", tuple([(f"p{k}", "int") for k in ks]), "int", ()),)))
        self.both(lambda ks: with_start(("fork", ("nil",), "f", tuple([("int", k) for k in ks]))))
        self.both(lambda ks: with_expression(("call", ("nil",), "f", tuple([("int", k) for k in ks]))))
        self.both(lambda ks: with_expression(("new", "M", tuple([("int", k) for k in ks]))))

    def test_statements_are_not_so_few(self):
        self.assertIsNone(check_tree(with_start(*[("do", ("int", 1))] * 300)))

    def test_many(self):
        statements = (("do", ("int", 1)),) * 300
        self.assertIsNone(check_tree(with_start(*statements)))
        with self.assertRaises(TooLarge):
            check_tree(with_start(*statements[:299], ("do", ("not", ("int", 1)))))

    def test_many_in_all_blocks(self):
        def program(many):
            operations = (("f", (), "int", (("do", ("int", 1)),) * 100), ("g", (), "int", (("do", ("int", 1)),) * 100))
            return ((), (("M", (), (), operations),), (("do", ("int", 1)),) * many)
        self.assertIsNone(check_tree(program(100)))
        with self.assertRaises(TooLarge):
            check_tree(program(101))

    def test_depth(self):
        self.assertIsNone(check_tree(with_expression(sums(29))))
        with self.assertRaises(TooLarge):
            check_tree(with_expression(sums(30)))
        block = (("do", ("int", 1)),)
        for _ in range(28):
            block = (("while", ("int", 1), block),)
        self.assertIsNone(check_tree(((), (), block)))
        with self.assertRaises(TooLarge):
            check_tree(((), (), (("if", ("int", 1), (), block),)))
        with self.assertRaises(TooLarge):
            check_tree(maker("M", (), (), (("f", (), "int", (("if", ("int", 1), block, ()),)),)))

    def test_depth_in_arguments(self):
        self.assertIsNone(check_tree(with_expression(("new", "M", (sums(28),)))))
        with self.assertRaises(TooLarge):
            check_tree(with_expression(("call", ("nil",), "f", (("int", 1), sums(29)))))

    def test_form_comes_first(self):
        deep = ("do", sums(60))
        for bad in (("do", ("int", -1)), ("do",), "x"):
            for program in (with_start(deep, bad), with_start(bad, deep), with_start(*[("do", ("int", 1))] * 601, bad)):
                with self.assertRaises(NotAllowed):
                    check_tree(program)
        with self.assertRaises(NotAllowed):
            check_tree(with_start(deep, ("do", ("new", "M", (("int", 1),) * 9))))

    def test_a_hundred_deep(self):
        with self.assertRaises(TooLarge):
            check_tree(with_expression(sums(95)))


class Counting(unittest.TestCase):
    def test_empty(self):
        self.assertEqual((count_nodes(()), depth_of(())), (0, 0))

    def test_each_kind(self):
        for expression in EVERY_EXPRESSION:
            leaf = expression[0] in ("int", "nil", "self", "name")
            self.assertEqual(depth_of((("do", expression),)), 2 if leaf else 3)
        many = {"int": 1, "nil": 1, "self": 1, "name": 1, "not": 2, "call": 4, "new": 2}
        for expression in EVERY_EXPRESSION:
            self.assertEqual(count_nodes((("do", expression),)), 1 + many.get(expression[0], 3), expression)

    def test_statements(self):
        one = ("int", 1)
        cases = ((("let", "x", "int", one), 2, 2), (("set", "x", one), 2, 2), (("return", one), 2, 2),
                 (("print", one), 2, 2), (("do", one), 2, 2), (("move", one, one), 3, 2),
                 (("fork", one, "f", (one, ("not", one))), 5, 3), (("if", one, (), ()), 2, 2),
                 (("if", one, (("do", one),), (("do", ("not", one)),)), 7, 4), (("while", one, (("do", one),)), 4, 3))
        for statement, many, depth in cases:
            self.assertEqual((count_nodes((statement,)), depth_of((statement,))), (many, depth), statement)

    def test_blocks(self):
        block = (("do", ("int", 1)), ("while", ("int", 1), (("do", sums(5)),)), ("print", ("nil",)))
        self.assertEqual(count_nodes(block), 2 + 2 + 1 + 9 + 2)
        self.assertEqual(depth_of(block), 7)


if __name__ == "__main__":
    unittest.main()
