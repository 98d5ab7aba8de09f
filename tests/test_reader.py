import random
import unittest

from portage.errors import BadForm, TooLarge
from portage.reader import read_expression, read_program
from portage.trees import check_tree
from portage.writer import expression_text, program_text
from tests.grammar import bad_line, parts
from tests.samples import Choices, EVERY_EXPRESSION, EVERY_STATEMENT, PROGRAM

A, B, C, D = ("name", "a"), ("name", "b"), ("name", "c"), ("name", "d")


class Reading(unittest.TestCase):
    def expression(self, text, tree):
        self.assertEqual(read_expression(text), tree, text)

    def start(self, text, *block):
        self.assertEqual(read_program("start { " + text + " }"), ((), (), block), text)

    def bad(self, text, line=1):
        with self.assertRaises(BadForm, msg=text) as caught:
            read_program(text)
        self.assertEqual(caught.exception.line, line, text)

    def bad_start(self, text):
        """The text within a start block has its bad token on its second line."""
        self.bad("start { " + text + (" }" if text.endswith("\n") else "\n}"), 2)

    def bad_expression(self, text, line=1):
        with self.assertRaises(BadForm, msg=text) as caught:
            read_expression(text)
        self.assertEqual(caught.exception.line, line, text)


class Expressions(Reading):
    def test_atoms(self):
        self.expression("0", ("int", 0))
        self.expression("12", ("int", 12))
        self.expression("nil", ("nil",))
        self.expression("self", ("self",))
        self.expression("nilly", ("name", "nilly"))
        self.expression("abcdefghijkl", ("name", "abcdefghijkl"))
        self.expression("(a)", A)
        self.expression("((7))", ("int", 7))
        self.expression("new M()", ("new", "M", ()))
        self.expression("new M(a, 1, new N())", ("new", "M", (A, ("int", 1), ("new", "N", ()))))

    def test_digits(self):
        self.expression("1000000000000", ("int", 10 ** 12))
        self.expression("999999999999", ("int", 10 ** 12 - 1))
        for text in ("1000000000001", "9999999999999", "10000000000000", "01", "00", "0000000000001", "9" * 6000,
                     "1a", "0x", "1e3", "1_0"):
            self.bad_expression(text)
            self.bad_expression("(a + \n" + text + " + )", 2)

    def test_operators(self):
        for sign, word in (("+", "add"), ("-", "sub"), ("*", "mul"), ("<", "less"), ("<=", "most"), ("==", "same"),
                           ("and", "and"), ("or", "or")):
            self.expression(f"a {sign} b", (word, A, B))
            self.expression(f"(a){sign}(b)", (word, A, B))
            self.expression(f"a\n\n{sign}\nb", (word, A, B))

    def test_rows_are_grouped_from_the_left(self):
        for sign, word in (("+", "add"), ("-", "sub"), ("*", "mul"), ("and", "and"), ("or", "or")):
            self.expression(f"a {sign} b {sign} c", (word, (word, A, B), C))
            self.expression(f"a {sign} (b {sign} c)", (word, A, (word, B, C)))
        self.expression("a - b + c - d", ("sub", ("add", ("sub", A, B), C), D))

    def test_levels(self):
        self.expression("a or b and c or d", ("or", ("or", A, ("and", B, C)), D))
        self.expression("a and b < c and d", ("and", ("and", A, ("less", B, C)), D))
        self.expression("a + b < c - d", ("less", ("add", A, B), ("sub", C, D)))
        self.expression("a + b * c - d", ("sub", ("add", A, ("mul", B, C)), D))
        self.expression("a * b + c * d", ("add", ("mul", A, B), ("mul", C, D)))
        self.expression("a * b.f()", ("mul", A, ("call", B, "f", ())))
        self.expression("a == b or c == d", ("or", ("same", A, B), ("same", C, D)))
        self.expression("a or b < c + d * a.f()",
                        ("or", A, ("less", B, ("add", C, ("mul", D, ("call", A, "f", ()))))))

    def test_not(self):
        self.expression("not a", ("not", A))
        self.expression("not not a", ("not", ("not", A)))
        self.expression("not a < b", ("not", ("less", A, B)))
        self.expression("not a + b", ("not", ("add", A, B)))
        self.expression("not a and b", ("and", ("not", A), B))
        self.expression("a and not b or not c", ("or", ("and", A, ("not", B)), ("not", C)))
        self.expression("not (a or b)", ("not", ("or", A, B)))
        self.expression("not a.f()", ("not", ("call", A, "f", ())))
        self.expression("f.g(not a)", ("call", ("name", "f"), "g", (("not", A),)))
        self.expression("a == (not b)", ("same", A, ("not", B)))

    def test_not_where_it_must_not_stand(self):
        for text in ("a + \nnot b", "a - \nnot b", "a * \nnot b", "a < \nnot b", "a <= \nnot b", "a == \nnot b",
                     "a and b < \nnot c", "not a < \nnot b", "a \nnot b", "a.\nnot()", "new \nnot()"):
            self.bad_expression(text, 2)

    def test_comparison_behind_comparison(self):
        for text in ("a < b\n < c", "a == b\n == c", "a <= b + 1\n == c", "not a < b\n <= c", "a or b < c\n < d",
                     "a and not b == c\n == d", "(a < b\n < c)"):
            self.bad_expression(text, 2)
        self.expression("(a < b) < c", ("less", ("less", A, B), C))
        self.expression("a < (b < c)", ("less", A, ("less", B, C)))

    def test_calls(self):
        self.expression("a.f()", ("call", A, "f", ()))
        self.expression("a.f(b, 1).g(c)", ("call", ("call", A, "f", (B, ("int", 1))), "g", (C,)))
        self.expression("3 . f ( )", ("call", ("int", 3), "f", ()))
        self.expression("new M(a).f()", ("call", ("new", "M", (A,)), "f", ()))
        self.expression("(a + b).f(a or b, not c)",
                        ("call", ("add", A, B), "f", (("or", A, B), ("not", C))))
        self.expression("self.f(nil.g())", ("call", ("self",), "f", (("call", ("nil",), "g", ()),)))

    def test_spaces(self):
        text = " \n a \n . \n f \n ( \n a \n , \n ( \n b \n ) \n ) \n == \n new \n M \n ( \n ) \n "
        self.expression(text, ("same", ("call", A, "f", (A, B)), ("new", "M", ())))
        self.expression("a.f(a,(b))==new M()", ("same", ("call", A, "f", (A, B)), ("new", "M", ())))
        self.expression("a<=b", ("most", A, B))
        self.bad_expression("a\n<\n=b", 3)
        self.bad_expression("a=\n=b", 1)

    def test_bad_tokens(self):
        for text in ("", "a b", "a +", "+ a", "- 1", "(a", "a)", "()", "a.", "a.f", "a.f(", "a.f(a,", "a.f(a,)",
                     "a.f(,a)", "a.1()", "a.if()", "new", "new M", "new if()", "new int()", "new 1()", "int", "if",
                     "let", "a..f()", "a = b", "a; b", "{a}", "a!", "a & b", "a / b", "'a'", "a > b", "a >= b",
                     "a\tb", "\u00e9", "\u00b2", "_a", "abcdefghijklm", "a,b"):
            self.bad_expression(text)

    def test_line_of_the_first_bad_token(self):
        self.bad_expression("a +\nb +\n\n) + if", 4)
        self.bad_expression("a\n+\nabcdefghijklm\n!", 3)
        self.bad_expression("a\n)\n", 2)
        self.bad_expression("a\n\n\n@", 4)
        self.bad_expression("@\na)", 1)

    def test_ends_too_early(self):
        self.bad_expression("", 1)
        self.bad_expression("\n\n", 3)
        self.bad_expression("a +", 1)
        self.bad_expression("a +\n", 2)
        self.bad_expression("a +\n\n  \n", 4)
        self.bad_expression("(a\n", 2)

    def test_eight_arguments(self):
        eight = ", ".join(["1"] * 8)
        self.assertEqual(len(read_expression(f"a.f({eight})")[3]), 8)
        self.assertEqual(len(read_expression(f"new M({eight})")[2]), 8)
        for begin in ("a.f(", "new M("):
            self.bad_expression(f"{begin}{eight}\n, 1)", 2)
            self.bad_expression(f"{begin}{eight}\n,\n", 2)


class AroundAPart(Reading):
    def test_a_hundred(self):
        self.expression("(" * 100 + "a" + ")" * 100, A)
        self.bad_expression("(" * 100 + "\n(a)" + ")" * 100, 2)
        with self.assertRaises(TooLarge):
            read_expression("not " * 100 + "a")
        self.bad_expression("not " * 100 + "\nnot a\n", 2)
        self.bad_expression("not " * 100 + "\n(a)\n", 2)
        self.bad_expression("(not " * 50 + "\n(a)\n", 2)
        self.bad_expression("(" * 100 + "a.f\n()\n", 2)
        self.bad_expression("(" * 100 + "new A\n()\n", 2)

    def test_blocks_count(self):
        self.assertEqual(read_program("start { return " + "(" * 99 + "a" + ")" * 99 + "; }"), ((), (), (("return", A),)))
        self.bad("start { return " + "(" * 99 + "\n(a)" + ")" * 99 + "; }", 2)
        with self.assertRaises(TooLarge):
            read_program("start {" + "while 1 {" * 99 + "}" * 100)
        self.bad("start {" + "while 1 {" * 99 + "while 1\n{" + "}" * 101, 2)
        self.bad("maker M() { op f(): int { return " + "(" * 98 + "\n(a\n", 2)

    def test_only_what_is_around_counts(self):
        row = " + ".join(["(a)"] * 150)
        with self.assertRaises(TooLarge):
            read_expression(row)
        text = " and ".join(["not a"] * 25)
        self.assertEqual(expression_text(read_expression(text)), text)
        with self.assertRaises(TooLarge):
            read_expression(" and ".join(["not a"] * 300))
        self.expression("not a and " + "(" * 100 + "b" + ")" * 100, ("and", ("not", A), B))
        self.bad_expression("not a < " + "(" * 99 + "\n(b)\n", 2)
        self.bad_expression("(a) + b.f((a), (b)) + " + "(" * 100 + "\n(b)\n", 2)
        self.bad_expression("not a and not not a and " + "(" * 100 + "\n(b)\n", 2)
        self.bad("start { if a { } else { } " + "(" * 99 + "\n(b\n", 2)
        self.expression("f.g() + " + "(" * 100 + "b" + ")" * 100, ("add", ("call", ("name", "f"), "g", ()), B))
        self.assertEqual(read_program("start { " + "if a { } " * 200 + "}"), ((), (), (("if", A, (), ()),) * 200))


class TooLargeTexts(Reading):
    def test_many(self):
        self.assertEqual(len(read_program("start { " + "a; " * 300 + "}")[2]), 300)
        with self.assertRaises(TooLarge):
            read_program("start { " + "a; " * 299 + "not a; }")
        with self.assertRaises(TooLarge):
            read_program("maker M() { op f(): int { " + "a; " * 150 + "} } start { " + "a; " * 151 + "}")

    def test_six_hundred_expressions(self):
        # A group has 2 + 8 * 9 expressions; with 8 groups, 2 more for the call and 6 for the sums it is 600.
        group = "a.f(" + ", ".join(["b.g(1, 2, 3, 4, 5, 6, 7)"] * 8) + ")"
        text = "c.h(" + ", ".join([group] * 8) + ")"
        self.assertEqual(read_expression(f"{text} + 1 + 2 + 3")[0], "add")
        with self.assertRaises(TooLarge):
            read_expression(f"{text} + 1 + 2 + (not 3)")

    def test_depth(self):
        self.assertEqual(read_expression("not " * 29 + "a")[0], "not")
        with self.assertRaises(TooLarge):
            read_expression("not " * 30 + "a")
        self.assertEqual(read_expression("1" + " + 1" * 29)[0], "add")
        with self.assertRaises(TooLarge):
            read_expression("1" + " + 1" * 30)
        self.assertEqual(read_program("start { " + "not " * 28 + "a; }")[2][0][0], "do")
        with self.assertRaises(TooLarge):
            read_program("start { " + "not " * 29 + "a; }")

    def test_bad_form_comes_first(self):
        self.bad_expression("not " * 40 + "a +\n", 2)
        self.bad("start { " + "a; " * 700 + "\n} }", 2)
        self.bad_expression("1" + "+1" * 700 + "\n)", 2)

    def test_very_long_rows(self):
        with self.assertRaises(TooLarge):
            read_expression("1" + " - 1" * 20000)
        with self.assertRaises(TooLarge):
            read_expression("a" + ".f()" * 20000)
        with self.assertRaises(TooLarge):
            read_program("start {" + "a;" * 20000 + "}")


class Statements(Reading):
    def test_each(self):
        one = ("int", 1)
        self.start("")
        self.start("let x: int = 1;", ("let", "x", "int", one))
        self.start("let x:Box=nil;", ("let", "x", "Box", ("nil",)))
        self.start("a = 1;", ("set", "a", one))
        self.start("a=(b==c);", ("set", "a", ("same", B, C)))
        self.start("a == 1;", ("do", ("same", A, one)))
        self.start("a==1;", ("do", ("same", A, one)))
        self.start("a;", ("do", A))
        self.start("a.f();", ("do", ("call", A, "f", ())))
        self.start("1;", ("do", one))
        self.start("(a);", ("do", A))
        self.start("not a;", ("do", ("not", A)))
        self.start("new M();", ("do", ("new", "M", ())))
        self.start("return 1;", ("return", one))
        self.start("return(1);", ("return", one))
        self.start("print a or b;", ("print", ("or", A, B)))
        self.start("move a to b + 1;", ("move", A, ("add", B, one)))
        self.start("while a { print 1; }", ("while", A, (("print", one),)))
        self.start("while(a){}", ("while", A, ()))

    def test_if(self):
        one = ("int", 1)
        self.start("if a { print 1; }", ("if", A, (("print", one),), ()))
        self.start("if a { } else { print 1; }", ("if", A, (), (("print", one),)))
        self.start("if a { 1; } else { }", ("if", A, (("do", one),), ()))
        self.start("if a { if b { } else { 1; } } 1;", ("if", A, (("if", B, (), (("do", one),)),), ()), ("do", one))
        self.start("if a { } if b { }", ("if", A, (), ()), ("if", B, (), ()))

    def test_fork(self):
        self.start("fork a.f();", ("fork", A, "f", ()))
        self.start("fork a.f(b).g(c, 1);", ("fork", ("call", A, "f", (B,)), "g", (C, ("int", 1))))
        self.start("fork (a.f()).g();", ("fork", ("call", A, "f", ()), "g", ()))
        self.start("fork (a + b).g();", ("fork", ("add", A, B), "g", ()))
        self.start("fork new M(a).g();", ("fork", ("new", "M", (A,)), "g", ()))
        self.start("fork self.g();", ("fork", ("self",), "g", ()))
        for text in ("fork a\n;", "fork (a.f())\n;", "fork new M()\n;", "fork a.f()\n + 1;", "fork a\n + b.f();",
                     "fork \nnot a.f();", "fork a.f()\n < b;", "fork a\n or b;", "fork a.f\n;", "fork \n;", "fork a.f()\n }",
                     "fork a\n == b;", "fork \nlet", "fork a.f()\n to b;"):
            self.bad_start(text)

    def test_bad_tokens(self):
        for text in ("let \n1", "let \nif: int = 1;", "let x\n = 1;", "let x: \n1", "let x: int\n;", "let x: \nnil = 1;",
                     "let x: int = \n;", "let x: int = 1\n", "let x: int\n == 1;",
                     "a = \n;", "a = 1\n", "a = b\n = c;", "a.f() \n= 1;", "(a)\n = 1;", "self\n = 1;", "1\n = 1;",
                     "return\n;", "return 1\n", "return 1 \nreturn", "print\n;", "move a\n;", "move a to\n;",
                     "move a to b\n to c;", "a\n", "a \nb", "a\n, b;", "\n;", "1;\n;", "if \n{ }", "if a\n;", "if a { }\n;",
                     "if a { } else\n if b { }", "\nelse { }", "if a { } else { }\n else { }", "while \n{ }", "while a\n;",
                     "while a { }\n else { }", "\ninterface", "\nmaker", "\nop", "\nfield", "\nstart", "\nto", "\nint",
                     "\nand", "\n{ }", "\nattached", "\nabcdefghijklm = 1;", "x = \nabcdefghijklm;"):
            self.bad_start(text)


class Programs(Reading):
    def test_whole(self):
        text = """
            interface Box { get(): int; put(int, Box): Box; }
            interface Empty { }
            maker Cell(attached next: Box, n: int) {
              attached field other: Box;
              field many: int = -3;
              field more: int = 1000000000000;
              field zero: int = -0;
              field none: int;
              op get(): int { return n; }
              op put(k: int, b: Box): Box { return self; }
            }
            maker M() { }
            start { return 0; }
        """
        boxes = (("Box", (("get", (), "int"), ("put", ("int", "Box"), "Box"))), ("Empty", ()))
        fields = ((True, "other", "Box", 0), (False, "many", "int", -3), (False, "more", "int", 10 ** 12),
                  (False, "zero", "int", 0), (False, "none", "int", 0))
        operations = (("get", (), "int", (("return", ("name", "n")),)),
                      ("put", (("k", "int"), ("b", "Box")), "Box", (("return", ("self",)),)))
        cell = ("Cell", ((True, "next", "Box"), (False, "n", "int")), fields, operations)
        expected = (boxes, (cell, ("M", (), (), ())), (("return", ("int", 0)),))
        self.assertEqual(read_program(text), expected)
        spread = "\n".join([part for part, _ in parts(text)])
        self.assertEqual(read_program(spread), expected)
        self.assertEqual(read_program("  \n" + spread.replace("\n", " \n\n ") + "\n \n"), expected)
        tight = " ".join([part for part, _ in parts(text)])
        for sign in "{}():;,=-":
            tight = tight.replace(f" {sign}", sign).replace(f"{sign} ", sign)
        self.assertEqual(read_program(tight), expected)

    def test_the_interface_examples(self):
        self.expression("1 + 2 * n - x.next(3)", (
            "sub", ("add", ("int", 1), ("mul", ("int", 2), ("name", "n"))),
            ("call", ("name", "x"), "next", (("int", 3),))))
        self.bad("start { print 1; }\nmaker A() { }", 2)
        text = ("interface Box { get(): int; } maker A(n: int) { op get(): int { return n; } } "
                "start { let a: Box = new A(5); return a.get(); }")
        self.assertEqual(read_program(text)[2][1], ("return", ("call", ("name", "a"), "get", ())))

    def test_bad_tokens(self):
        for text in ("\ninterfaces", "\n{", "\nstar { }", "start\n(", "start { }\n}", "start { }\nstart { }",
                     "start { } \ninterface I { }", "maker M() { }\ninterface I { }", "interface\n{ }", "interface \nint",
                     "interface I\n(", "interface I {\n;", "interface I {\nop", "interface I { f\n:", "interface I { f(\n,",
                     "interface I { f(a\n: int", "interface I { f(int,\n)", "interface I { f(int\nint", "interface I { f()\n;",
                     "interface I { f():\n;", "interface I { f(): int\n}", "interface I { f(): int\n,", "interface I { f(\n1",
                     "maker M\n{", "maker M(\n,", "maker M(a\n)", "maker M(a:\n)", "maker M(a: int\na", "maker M(a: int,\n)",
                     "maker M(attached\n:", "maker M(attached \nattached", "maker M(\nint", "maker M()\n;", "maker M() {\nf",
                     "maker M() { attached\n a", "maker M() { field\n:", "maker M() { field a\n;", "maker M() { field a: int = \n;",
                     "maker M() { field a: int = -\n-", "maker M() { field a: int = 1\n+", "maker M() { field a: int = \na",
                     "maker M() { field a: B\n = 0;", "maker M() { field a: B\n = nil;", "maker M() { field a: int\n == 0;",
                     "maker M() { field a: int = \n01;", "maker M() { field a: int = -\n1000000000001;",
                     "maker M() { field a: int = \n(1)", "maker M() { op f(): int { } \nfield", "maker M() { op f(): int { } \nattached",
                     "maker M() { op f(\nattached", "maker M() { op f(): int\n;", "maker M() { op f()\n{", "maker M() { op f(a\n)",
                     "maker M() { op\n(", "maker M() { op f(): int { }\n;", "maker M() { attached \nop", "maker \nM1234567890123",
                     "interface \nabcdefghijklm", "maker M(\nstart"):
            self.bad(text + "\n", 2)

    def test_lines(self):
        self.bad("start {\n  print 1;\n  print ;\n}\n", 3)
        self.bad("start {\n\n\n  print 1 !\n  if\n", 4)
        self.bad("start {\n  print 1;\n}\n\nmaker", 5)

    def test_ends_too_early(self):
        self.bad("", 1)
        self.bad(" ", 1)
        self.bad("\n", 2)
        self.bad("start", 1)
        self.bad("start {\n", 2)
        self.bad("start {\n  print 1;\n\n\n", 5)
        self.bad("interface I { }\nmaker M() { }\n", 3)

    def test_ninth_parts(self):
        def eight_and_nine(begin, part, between, end):
            good = begin + between.join([part] * 8) + end
            self.assertIsNone(check_tree(read_program(good)))
            self.bad(begin + between.join([part] * 8) + "\n" + between + part + end, 2)

        rest = " start { }"
        eight_and_nine("", "interface I { } ", "", rest)
        eight_and_nine("", "maker M() { } ", "", rest)
        eight_and_nine("interface I { ", "f(): int; ", "", "}" + rest)
        eight_and_nine("interface I { f(", "int", ",", "): int; }" + rest)
        eight_and_nine("maker M(", "a: int", ",", ") { }" + rest)
        eight_and_nine("maker M(", "attached a: int", ",", ") { }" + rest)
        eight_and_nine("maker M() { ", "field a: int; ", "", "}" + rest)
        eight_and_nine("maker M() { ", "attached field a: B; ", "", "op f(): int { } }" + rest)
        eight_and_nine("maker M() { ", "op f(): int { } ", "", "}" + rest)
        eight_and_nine("maker M() { op f(", "a: int", ",", "): int { } }" + rest)
        eight_and_nine("start { fork a.f(", "1", ",", "); }")
        eight_and_nine("start { new M(", "1", ",", "); }")


class AgainstTheGrammar(unittest.TestCase):
    """Texts with a token changed, put in or left out, against a recognizer of the grammar."""

    def mutated(self, choices, tokens):
        more = ["(", ")", "{", "}", ".", ",", ";", ":", "=", "==", "<", "<=", "+", "-", "*", "not", "and", "or", "if",
                "else", "fork", "move", "to", "int", "nil", "new", "let", "x", "7", "007", "field", "attached", "op",
                "interface", "maker", "start", "!", "abcdefghijklm", "1x", "return"]
        at = choices.randrange(len(tokens) + 1)
        word = choices.choice(more)
        return choices.choice([tokens[:at] + [word] + tokens[at:], tokens[:at] + [word] + tokens[at + 1:],
                               tokens[:at] + tokens[at + 1:], tokens[:at], tokens[:at] + tokens[at + 1:] + [word]])

    def compare(self, text, head, read):
        line = bad_line(text, head)
        try:
            read(text)
            self.assertIsNone(line, text)
        except TooLarge:
            self.assertIsNone(line, text)
        except BadForm as error:
            self.assertEqual(error.line, line, text)

    def test_expressions(self):
        choices = random.Random(1)
        for seed in range(500):
            text = expression_text(Choices(seed).expression(5))
            tokens = [part for part, _ in parts(text)]
            self.compare("\n".join(tokens), "expr", read_expression)
            self.compare("\n".join(self.mutated(choices, tokens)), "expr", read_expression)

    def test_programs(self):
        choices = random.Random(2)
        for seed in range(250):
            tokens = [part for part, _ in parts(program_text(Choices(seed).program(3)))]
            self.compare("\n".join(self.mutated(choices, tokens)), "program", read_program)

    def test_the_same_parts_at_any_spaces(self):
        for tree in EVERY_EXPRESSION:
            text = expression_text(tree)
            self.assertEqual(read_expression("\n" + "\n ".join([part for part, _ in parts(text)]) + "\n"), tree)
        for statement in EVERY_STATEMENT:
            text = program_text(((), (), (statement,)))
            self.assertEqual(read_program(" ".join([part for part, _ in parts(text)])), ((), (), (statement,)))
        self.assertEqual(read_program(program_text(PROGRAM)), PROGRAM)


if __name__ == "__main__":
    unittest.main()
