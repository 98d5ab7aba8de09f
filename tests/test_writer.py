import unittest

from portage.reader import read_expression, read_program
from portage.writer import expression_text, program_text
from tests.samples import Choices, PROGRAM

ONE = ("int", 1)
A, B, C = ("name", "a"), ("name", "b"), ("name", "c")
SIGNS = {"or": "or", "and": "and", "less": "<", "most": "<=", "same": "==", "add": "+", "sub": "-", "mul": "*"}
# The operators which the grammar takes without brackets on the left and on the right of each operator.
SUMS = ("add", "sub", "mul")
ALL = tuple(SIGNS)
LEFT = {"or": ALL, "and": ALL[1:], "less": SUMS, "most": SUMS, "same": SUMS, "add": SUMS, "sub": SUMS, "mul": ("mul",)}
RIGHT = {"or": ALL[1:], "and": ALL[2:], "less": SUMS, "most": SUMS, "same": SUMS, "add": ("mul",), "sub": ("mul",),
         "mul": ()}

PLAIN = """interface Box {
  get(): int;
  put(int, Box): Box;
}
interface Empty {
}
maker Cell(attached next: Box, n: int) {
  attached field other: Box;
  field many: int = -3;
  field more: int = 1000000000000;
  field zero: int;
  op get(): int {
    let x: int = n + 1;
    if x < 3 {
      x = 2;
    }
    if not x == 3 {
    }
    while x <= 5 {
      if x {
        print x;
      } else {
        while 0 {
        }
        move next to x - 1;
      }
    }
    if x {
    } else {
      fork self.put(1, nil);
    }
    return x;
  }
  op put(k: int, b: Box): Box {
  }
}
maker M() {
}
start {
  let c: Box = new Cell(nil, 4);
  c.put(1 + 2 * 3, c).get();
  return (1 + 2) * 3;
}
"""


class Expressions(unittest.TestCase):
    def text(self, tree, text):
        self.assertEqual(expression_text(tree), text)
        self.assertEqual(read_expression(text), tree)

    def test_atoms(self):
        self.text(("int", 0), "0")
        self.text(("int", 10 ** 12), "1000000000000")
        self.text(("nil",), "nil")
        self.text(("self",), "self")
        self.text(A, "a")
        self.text(("new", "M", ()), "new M()")
        self.text(("new", "M", (ONE, ("or", A, B), ("new", "N", (A,)))), "new M(1, a or b, new N(a))")

    def test_pairs_of_operators(self):
        for outer in SIGNS:
            for inner in SIGNS:
                text = f"a {SIGNS[inner]} b"
                left = text if inner in LEFT[outer] else f"({text})"
                right = text if inner in RIGHT[outer] else f"({text})"
                self.text((outer, (inner, A, B), C), f"{left} {SIGNS[outer]} c")
                self.text((outer, C, (inner, A, B)), f"c {SIGNS[outer]} {right}")

    def test_not(self):
        self.text(("not", A), "not a")
        self.text(("not", ("not", A)), "not not a")
        self.text(("not", ("call", A, "f", ())), "not a.f()")
        for word, sign in SIGNS.items():
            inner = f"a {sign} b"
            self.text(("not", (word, A, B)), f"not ({inner})" if word in ("or", "and") else f"not {inner}")
            bare = word in ("or", "and")
            self.text((word, ("not", A), B), f"not a {sign} b" if bare else f"(not a) {sign} b")
            self.text((word, A, ("not", B)), f"a {sign} not b" if bare else f"a {sign} (not b)")

    def test_calls(self):
        self.text(("call", A, "f", ()), "a.f()")
        self.text(("call", ("call", A, "f", (ONE, B)), "g", (("not", C),)), "a.f(1, b).g(not c)")
        self.text(("call", ("int", 3), "f", ()), "3.f()")
        self.text(("call", ("self",), "f", ()), "self.f()")
        self.text(("call", ("new", "M", (A,)), "f", ()), "new M(a).f()")
        self.text(("call", ("not", A), "f", ()), "(not a).f()")
        for word, sign in SIGNS.items():
            self.text(("call", (word, A, B), "f", ((word, A, B),)), f"(a {sign} b).f(a {sign} b)")
            self.text((word, ("call", A, "f", ()), ("new", "M", ())), f"a.f() {sign} new M()")

    def test_deep(self):
        tree = A
        for _ in range(60):
            tree = ("mul", ("int", 2), ("not", tree))
        self.assertEqual(expression_text(tree).count("2 * (not"), 60)

    def test_random_ones(self):
        for seed in range(400):
            tree = Choices(seed).expression(6)
            self.text(tree, expression_text(tree))


class Programs(unittest.TestCase):
    def test_line_for_line(self):
        program = read_program(PLAIN)
        self.assertEqual(program_text(program), PLAIN)

    def test_smallest(self):
        self.assertEqual(program_text(((), (), ())), "start {\n}\n")

    def test_every_statement(self):
        cases = (
            (("let", "x", "int", ("or", A, B)), "let x: int = a or b;"),
            (("set", "x", ("add", ("add", A, B), C)), "x = a + b + c;"),
            (("return", ("mul", ("add", A, B), C)), "return (a + b) * c;"),
            (("print", ("not", ("and", A, B))), "print not (a and b);"),
            (("move", ("or", A, B), ("less", A, B)), "move a or b to a < b;"),
            (("fork", ("call", A, "f", ()), "g", (A, B)), "fork a.f().g(a, b);"),
            (("fork", ("add", A, B), "g", ()), "fork (a + b).g();"),
            (("do", ("same", A, B)), "a == b;"),
            (("do", ("call", ("or", A, B), "f", ())), "(a or b).f();"),
            (("if", ("or", A, B), (), ()), "if a or b {\n  }"),
            (("if", A, (), (("do", B),)), "if a {\n  } else {\n    b;\n  }"),
            (("if", A, (("do", B),), ()), "if a {\n    b;\n  }"),
            (("while", ("mul", ("sub", A, B), C), (("do", B),)), "while (a - b) * c {\n    b;\n  }"),
            (("while", A, ()), "while a {\n  }"),
        )
        for statement, text in cases:
            self.assertEqual(program_text(((), (), (statement,))), "start {\n  " + text + "\n}\n")

    def test_fields_and_params(self):
        fields = ((True, "a", "int", 0), (False, "b", "int", -7), (False, "c", "Box", 0), (True, "d", "Box", 0),
                  (True, "e", "int", 5))
        params = ((False, "p", "int"), (True, "q", "Box"))
        operation = ("f", (("x", "int"), ("y", "Box")), "Box", (("return", ("nil",)),))
        text = program_text(((), (("M", params, fields, (operation,)),), ()))
        self.assertEqual(text, "maker M(p: int, attached q: Box) {\n  attached field a: int;\n  field b: int = -7;\n"
                               "  field c: Box;\n  attached field d: Box;\n  attached field e: int = 5;\n"
                               "  op f(x: int, y: Box): Box {\n    return nil;\n  }\n}\nstart {\n}\n")

    def test_reading_gives_the_program_back(self):
        self.assertEqual(read_program(program_text(PROGRAM)), PROGRAM)
        for seed in range(200):
            program = Choices(seed).program(5)
            text = program_text(program)
            self.assertEqual(read_program(text), program)
            self.assertEqual(program_text(read_program(text)), text)


if __name__ == "__main__":
    unittest.main()
