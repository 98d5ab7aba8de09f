import unittest

from portage.checks import check_program
from portage.code import heights
from portage.compiler import compile_program, compiled_block, local_names, maker_of, row_of
from portage.errors import Missing
from portage.reader import read_expression, read_program
from tests.assembler import Assembler
from tests.samples import Choices

NAMES = {"x": ("local", 0), "y": ("local", 1), "f": ("field", 0), "g": ("field", 3)}


def block_of(text):
    return read_program("start { " + text + " }")[2]


class Blocks(unittest.TestCase):
    def expression(self, text, *code):
        """The code of the expression, in a statement and behind another one, so that jumps are moved."""
        tree = read_expression(text)
        self.assertEqual(compiled_block(NAMES, (("print", tree),)), code + (("print",),), text)
        moved = tuple([(row[0], row[1] + 2) if row[0] in ("jump", "unless") else row for row in code])
        self.assertEqual(compiled_block(NAMES, (("do", ("nil",)), ("return", tree))),
                         (("nil",), ("drop",)) + moved + (("return",),), text)

    def block(self, text, *code):
        self.assertEqual(compiled_block(NAMES, block_of(text)), code, text)

    def test_atoms(self):
        self.expression("7", ("push", 7))
        self.expression("nil", ("nil",))
        self.expression("self", ("self",))
        self.expression("x", ("local", 0))
        self.expression("g", ("field", 3))

    def test_operators(self):
        for sign, word in (("+", "add"), ("-", "sub"), ("*", "mul"), ("<", "less"), ("<=", "most"), ("==", "same")):
            self.expression(f"x {sign} 2", ("local", 0), ("push", 2), (word,))
        self.expression("not f", ("field", 0), ("not",))
        self.expression("1 - (2 - 3) * 4", ("push", 1), ("push", 2), ("push", 3), ("sub",), ("push", 4), ("mul",), ("sub",))

    def test_and(self):
        self.expression("x and y", ("local", 0), ("unless", 6), ("local", 1), ("unless", 6), ("push", 1), ("jump", 7),
                        ("push", 0))
        self.expression("x + 1 and y < 2", ("local", 0), ("push", 1), ("add",), ("unless", 10), ("local", 1), ("push", 2),
                        ("less",), ("unless", 10), ("push", 1), ("jump", 11), ("push", 0))

    def test_or(self):
        self.expression("x or y", ("local", 0), ("not",), ("unless", 8), ("local", 1), ("not",), ("unless", 8), ("push", 0),
                        ("jump", 9), ("push", 1))

    def test_nested_choices(self):
        self.expression("x and (y or f)", ("local", 0), ("unless", 14),
                        ("local", 1), ("not",), ("unless", 10), ("field", 0), ("not",), ("unless", 10), ("push", 0),
                        ("jump", 11), ("push", 1), ("unless", 14), ("push", 1), ("jump", 15), ("push", 0))
        self.expression("x and y or f",
                        ("local", 0), ("unless", 6), ("local", 1), ("unless", 6), ("push", 1), ("jump", 7), ("push", 0),
                        ("not",), ("unless", 14), ("field", 0), ("not",), ("unless", 14), ("push", 0), ("jump", 15),
                        ("push", 1))

    def test_calls(self):
        self.expression("x.f()", ("local", 0), ("call", "f", 0))
        self.expression("x.f(1, y).g(self)", ("local", 0), ("push", 1), ("local", 1), ("call", "f", 2), ("self",),
                        ("call", "g", 1))
        self.expression("x.f(y and 1)", ("local", 0), ("local", 1), ("unless", 7), ("push", 1), ("unless", 7), ("push", 1),
                        ("jump", 8), ("push", 0), ("call", "f", 1))
        self.expression("new M()", ("new", "M", 0))
        self.expression("new M(1, new N(x))", ("push", 1), ("local", 0), ("new", "N", 1), ("new", "M", 2))

    def test_statements(self):
        self.block("")
        self.block("let x: int = 1;", ("push", 1), ("setlocal", 0))
        self.block("y = 1;", ("push", 1), ("setlocal", 1))
        self.block("g = x;", ("local", 0), ("setfield", 3))
        self.block("return x;", ("local", 0), ("return",))
        self.block("print x;", ("local", 0), ("print",))
        self.block("move x to 2;", ("local", 0), ("push", 2), ("move",))
        self.block("fork x.f(1, y);", ("local", 0), ("push", 1), ("local", 1), ("fork", "f", 2))
        self.block("fork x.f(1).g();", ("local", 0), ("push", 1), ("call", "f", 1), ("fork", "g", 0))
        self.block("x;", ("local", 0), ("drop",))

    def test_if(self):
        self.block("if x { print 1; } print 2;", ("local", 0), ("unless", 4), ("push", 1), ("print",), ("push", 2), ("print",))
        self.block("if x { print 1; } else { print 2; } y;", ("local", 0), ("unless", 5), ("push", 1), ("print",), ("jump", 7),
                   ("push", 2), ("print",), ("local", 1), ("drop",))
        self.block("if x { } y;", ("local", 0), ("unless", 2), ("local", 1), ("drop",))
        self.block("if x { } else { y; } x;", ("local", 0), ("unless", 3), ("jump", 5), ("local", 1), ("drop",), ("local", 0),
                   ("drop",))
        self.block("if x { y; } else { }", ("local", 0), ("unless", 4), ("local", 1), ("drop",))
        self.block("if x and y { 1; }", ("local", 0), ("unless", 6), ("local", 1), ("unless", 6), ("push", 1), ("jump", 7),
                   ("push", 0), ("unless", 10), ("push", 1), ("drop",))

    def test_at_the_end(self):
        self.block("if x { return 1; } else { return 2; }", ("local", 0), ("unless", 5), ("push", 1), ("return",), ("jump", 7),
                   ("push", 2), ("return",))
        self.block("x; while y { x; }", ("local", 0), ("drop",), ("local", 1), ("unless", 7), ("local", 0), ("drop",),
                   ("jump", 2))

    def test_while(self):
        self.block("while x < 3 { x = x + 1; } return x;", ("local", 0), ("push", 3), ("less",), ("unless", 9), ("local", 0),
                   ("push", 1), ("add",), ("setlocal", 0), ("jump", 0), ("local", 0), ("return",))
        self.block("while 1 { }", ("push", 1), ("unless", 3), ("jump", 0))

    def test_nested(self):
        self.block("x; while y { if x { print 1; } else { while 2 { } } } return 3;",
                   ("local", 0), ("drop",),
                   ("local", 1), ("unless", 13),
                   ("local", 0), ("unless", 9), ("push", 1), ("print",), ("jump", 12),
                   ("push", 2), ("unless", 12), ("jump", 9),
                   ("jump", 2), ("push", 3), ("return",))

    def test_random_blocks(self):
        for seed in range(200):
            choices = Choices(seed)
            names = {name: (choices.random.choice(["local", "field"]), k) for k, name in
                     enumerate(["a", "b", "x1", "Box", "Zed", "abcdefghijkl", "iff", "news"])}
            block = choices.block(6)
            before = dict(names)
            assembler = Assembler(names)
            assembler.block(block)
            self.assertEqual(compiled_block(names, block), assembler.code())
            self.assertEqual(names, before)


class Locals(unittest.TestCase):
    def test_order_of_the_text(self):
        block = block_of("let c: int = 1; if c { let b: int = 1; while 1 { let z: int = 1; } let y: int = 2; } "
                         "else { let a: int = 1; } while 1 { let e: int = 1; if 1 { } else { let f: int = 1; } } "
                         "let d: int = 1; d = 2;")
        self.assertEqual(local_names(["q", "p"], block), ["q", "p", "c", "b", "z", "y", "a", "e", "f", "d"])

    def test_none(self):
        self.assertEqual(local_names([], ()), [])
        self.assertEqual(local_names([], block_of("x = 1; return x;")), [])

    def test_a_new_list(self):
        params = ["p"]
        found = local_names(params, ())
        found.append("x")
        self.assertEqual(local_names(params, block_of("let y: int = 1;")), ["p", "y"])
        self.assertEqual(params, ["p"])


TEXT = """
interface Box { get(): int; put(int, Box): Box; }
maker Cell(n: int, attached next: Box, last: Box) {
  attached field other: Box;
  field many: int = -7;
  attached field zero: int;
  field more: int = 1000000000000;
  field none: Box;
  op get(): int { let x: int = many; if x { let y: int = x; return y + n; } return zero; }
  op put(k: int, b: Box): Box { let m: Box = b; more = k; m = other; return none; }
}
maker Plain() { }
start { let c: Box = new Cell(1, nil, nil); while c.get() < 3 { let d: Box = c; c = d; } return c.get(); }
"""
GET = ("get", 0, 2, (("field", 4), ("setlocal", 0), ("local", 0), ("unless", 10), ("local", 0), ("setlocal", 1),
                     ("local", 1), ("field", 0), ("add",), ("return",), ("field", 5), ("return",)))
PUT = ("put", 2, 3, (("local", 1), ("setlocal", 2), ("local", 0), ("setfield", 6), ("field", 3), ("setlocal", 2),
                     ("field", 7), ("return",)))
START = ("start", 0, 2, (("push", 1), ("nil",), ("nil",), ("new", "Cell", 3), ("setlocal", 0),
                         ("local", 0), ("call", "get", 0), ("push", 3), ("less",), ("unless", 15),
                         ("local", 0), ("setlocal", 1), ("local", 1), ("setlocal", 0), ("jump", 5),
                         ("local", 0), ("call", "get", 0), ("return",)))
CELL = ("Cell", 3, (("nil",), -7, 0, 1000000000000, ("nil",)), (1, 3, 5), (GET, PUT))


class Images(unittest.TestCase):
    def setUp(self):
        program = read_program(TEXT)
        check_program(program)
        self.image = compile_program(program)

    def test_the_image(self):
        self.assertEqual(self.image, ((CELL, ("Plain", 0, (), (), ())), START))

    def test_examples(self):
        self.assertEqual(compile_program(((), (), (("return", ("int", 7)),))),
                         ((), ("start", 0, 0, (("push", 7), ("return",)))))
        self.assertEqual(
            compiled_block({"x": ("local", 0)}, (
                ("while", ("less", ("name", "x"), ("int", 3)), (("set", "x", ("add", ("name", "x"), ("int", 1))),)),
                ("return", ("name", "x")))),
            (("local", 0), ("push", 3), ("less",), ("unless", 9), ("local", 0), ("push", 1), ("add",), ("setlocal", 0),
             ("jump", 0), ("local", 0), ("return",)))

    def test_row_of(self):
        self.assertEqual(row_of(self.image, "Cell", "get"), GET)
        self.assertEqual(row_of(self.image, "Cell", "put"), PUT)
        self.assertEqual(row_of(self.image, "start", "start"), START)
        for maker, operation in (("Cell", "start"), ("Cell", "x"), ("Plain", "get"), ("Nowhere", "get"), ("start", "get"),
                                 ("start", ""), ("Box", "get"), ("get", "get"), ("", "")):
            with self.assertRaises(Missing, msg=(maker, operation)):
                row_of(self.image, maker, operation)

    def test_maker_of(self):
        self.assertEqual(maker_of(self.image, "Cell"), CELL)
        self.assertEqual(maker_of(self.image, "Plain"), ("Plain", 0, (), (), ()))
        self.assertEqual(maker_of(self.image, "start"), ("start", 0, (), (), (START,)))
        for name in ("Nowhere", "Box", "", "get", "cell"):
            with self.assertRaises(Missing, msg=name):
                maker_of(self.image, name)

    def test_code_is_sound(self):
        for name, params, firsts, _, rows in self.image[0] + (maker_of(self.image, "start"),):
            for row in rows:
                self.assertEqual(len(heights(row[3], row[2], params + len(firsts))), len(row[3]), name)


if __name__ == "__main__":
    unittest.main()
