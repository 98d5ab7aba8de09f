import unittest

from portage import code
from portage.code import effect, heights, is_instruction, need
from portage.compiler import compile_program
from portage.errors import NotAllowed
from portage.reader import read_program

# The table of [3.2], with 3 for m.
TABLE = {
    ("push", 5): (0, 1), ("nil",): (0, 1), ("self",): (0, 1), ("local", 2): (0, 1), ("field", 2): (0, 1),
    ("setlocal", 2): (1, -1), ("setfield", 2): (1, -1), ("drop",): (1, -1), ("print",): (1, -1),
    ("add",): (2, -1), ("sub",): (2, -1), ("mul",): (2, -1), ("less",): (2, -1), ("most",): (2, -1), ("same",): (2, -1),
    ("not",): (1, 0), ("jump", 2): (0, 0), ("unless", 2): (1, -1), ("new", "M", 3): (3, -2), ("call", "f", 3): (4, -3),
    ("fork", "f", 3): (4, -4), ("move",): (2, -2), ("return",): (1, -1),
    ("new", "M", 0): (0, 1), ("call", "f", 0): (1, 0), ("fork", "f", 0): (1, -1),
}


class Instructions(unittest.TestCase):
    def test_plain(self):
        self.assertEqual(code.PLAIN, ("nil", "self", "add", "sub", "mul", "less", "most", "same", "not", "drop", "move",
                                      "print", "return"))

    def test_table(self):
        for instruction, (needed, longer) in TABLE.items():
            self.assertIs(is_instruction(instruction), True, instruction)
            self.assertEqual(need(instruction), needed, instruction)
            self.assertEqual(effect(instruction), longer, instruction)

    def test_wrong_lengths(self):
        for instruction in TABLE:
            self.assertIs(is_instruction(instruction + (1,)), False, instruction)
            self.assertIs(is_instruction(instruction + ("a",)), False, instruction)
            if len(instruction) > 1:
                self.assertIs(is_instruction(instruction[:-1]), False, instruction)

    def test_unknown_words(self):
        for word in ("", "x", "Push", "int", "and", "let", "if", "do", "div", "name", "start", "nil ", "pop"):
            for rest in ((), (1,), ("f",), ("f", 1)):
                self.assertIs(is_instruction((word,) + rest), False, (word,) + rest)

    def test_numbers(self):
        for word in ("push", "local", "field", "setlocal", "setfield", "jump", "unless"):
            self.assertIs(is_instruction((word, 0)), True)
            self.assertIs(is_instruction((word, 1000000000000)), True)
            self.assertIs(is_instruction((word, 1000000000001)), word != "push")
            for bad in (-1, "1", "", "f"):
                self.assertIs(is_instruction((word, bad)), False, (word, bad))

    def test_names(self):
        for word in ("new", "call", "fork"):
            self.assertIs(is_instruction((word, "abcdefghijkl", 0)), True)
            self.assertIs(is_instruction((word, "f", 9)), True)
            for bad in ("", "start", "int", "1f", "abcdefghijklm", "a b", 1, 0):
                self.assertIs(is_instruction((word, bad, 1)), False, (word, bad))
            for bad in (-1, "1", "f"):
                self.assertIs(is_instruction((word, "f", bad)), False, (word, bad))
            self.assertIs(is_instruction((word, 1, "f")), False)


class Heights(unittest.TestCase):
    def sound(self, row, expected, locals_many=0, fields_many=0):
        self.assertEqual(heights(row, locals_many, fields_many), expected)

    def refuse(self, row, locals_many=0, fields_many=0):
        with self.assertRaises(NotAllowed, msg=row):
            heights(row, locals_many, fields_many)

    def test_examples(self):
        self.sound((("push", 1), ("unless", 4), ("push", 5), ("return",), ("push", 6), ("return",)), (0, 1, 0, 1, 0, 1))
        self.refuse((("drop",), ("push", 5), ("return",)))

    def test_empty(self):
        self.refuse(())

    def test_straight(self):
        self.sound((("push", 1), ("push", 2), ("add",), ("return",)), (0, 1, 2, 1))
        self.sound((("nil",), ("new", "M", 1), ("push", 1), ("self",), ("call", "f", 2), ("return",)), (0, 1, 1, 2, 3, 1))
        self.sound((("self",), ("push", 1), ("fork", "f", 1), ("nil",), ("return",)), (0, 1, 2, 0, 1))

    def test_need_above_the_height(self):
        for instruction, (needed, _) in TABLE.items():
            if needed > 0:
                self.refuse((("push", 1),) * (needed - 1) + (instruction, ("push", 1), ("push", 1), ("return",)), 9, 9)

    def test_need_just_met(self):
        for instruction, (needed, longer) in TABLE.items():
            if instruction[0] in ("jump", "unless", "return"):
                continue
            row = (("push", 1),) * needed + (instruction,)
            row = row + ((("drop",), ("push", 1)) if needed + longer == 1 else (("push", 1),)) + (("return",),)
            self.assertEqual(heights(row, 9, 9)[needed], needed, instruction)

    def test_returns(self):
        self.sound((("push", 1), ("return",)), (0, 1))
        self.refuse((("return",),))
        self.refuse((("push", 1), ("push", 1), ("return",)))

    def test_behind_the_last(self):
        self.refuse((("push", 1),))
        self.refuse((("push", 1), ("drop",)))
        self.refuse((("jump", 1),))
        self.refuse((("jump", 7),))
        self.refuse((("push", 1), ("unless", 4), ("push", 1), ("return",)))
        self.refuse((("push", 1), ("unless", 0)))
        self.refuse((("push", 1), ("unless", 9), ("push", 1), ("return",)))

    def test_what_is_not_reached(self):
        self.sound((("push", 1), ("return",), ("add",)), (0, 1, None))
        self.sound((("push", 1), ("return",), ("local", 5), ("return",), ("jump", 99)), (0, 1, None, None, None))
        self.sound((("jump", 2), ("setfield", 9), ("push", 1), ("return",)), (0, None, 0, 1))
        self.sound((("push", 1), ("return",), ("jump", 0)), (0, 1, None))
        self.sound((("push", 1), ("return",), ("push", 1), ("push", 1), ("return",)), (0, 1, None, None, None))

    def test_different_heights(self):
        self.refuse((("push", 1), ("unless", 3), ("push", 5), ("push", 6), ("return",)))
        self.refuse((("push", 1), ("jump", 0)))
        self.refuse((("push", 1), ("push", 2), ("unless", 4), ("drop",), ("return",)))
        self.sound((("push", 1), ("unless", 4), ("push", 5), ("jump", 5), ("push", 6), ("return",)), (0, 1, 0, 1, 0, 1))

    def test_loops(self):
        self.sound((("jump", 0),), (0,))
        self.sound((("local", 0), ("unless", 4), ("push", 2), ("return",), ("jump", 0)), (0, 1, 0, 1, 0), 1)
        self.sound((("push", 0), ("unless", 0), ("push", 1), ("return",)), (0, 1, 0, 1))

    def test_indexes(self):
        for word in ("local", "field"):
            locals_many, fields_many = (3, 0) if word == "local" else (0, 3)
            self.sound(((word, 2), ("return",)), (0, 1), locals_many, fields_many)
            self.refuse(((word, 3), ("return",)), locals_many, fields_many)
            self.refuse(((word, 0), ("return",)), fields_many, locals_many)
            self.sound((("nil",), ("set" + word, 2), ("nil",), ("return",)), (0, 1, 0, 1), locals_many, fields_many)
            self.refuse((("nil",), ("set" + word, 3), ("nil",), ("return",)), locals_many, fields_many)
            self.refuse((("nil",), ("set" + word, 0), ("nil",), ("return",)), fields_many, locals_many)
            self.refuse(((word, 0), ("return",)))

    def test_long_code(self):
        row = (("push", 1), ("drop",)) * 3000 + (("push", 1), ("return",))
        self.assertEqual(heights(row, 0, 0), (0, 1) * 3001)

    def test_compiled_operations(self):
        image = compile_program(read_program("""
            interface I { f(int, I): int; }
            maker M(attached a: I, n: int) {
              field m: int = 4;
              op f(k: int, i: I): int {
                let x: int = k * 2 - 1;
                while x < 10 and not (k == 3) or n <= m {
                  x = x + 1;
                  if x == 7 { return a.f(x, self); } else { let y: I = new M(i, x); m = 2; fork y.f(1, nil); }
                }
                if x { return 1; } else { if i == nil { move a to 2; return 2; } else { return 3; } }
              }
            }
            start { print new M(nil, 3).f(1, nil); 5; while 1 { return 3; } return 4; }"""))
        for params, row in ((3, image[0][0][4][0]), (0, image[1])):
            found = heights(row[3], row[2], params)
            self.assertEqual(found[0], 0)
            self.assertEqual(len(found), len(row[3]))
            for instruction, height in zip(row[3], found):
                self.assertTrue(is_instruction(instruction))
                self.assertTrue(height is None or height >= need(instruction))


if __name__ == "__main__":
    unittest.main()
