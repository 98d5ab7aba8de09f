import unittest

from portage.bundles import bundle_text, is_bundle, read_bundle
from portage.errors import BadForm
from tests.bundle_texts import Bundles, bad_line

MAX = 1000000000000
NIL = ("nil",)
FIRST = ((), 0)
ENTRIES = (
    ((), 0, ("start", 2, (0, NIL), (("ref", ((3, 10), 4)), -7)), (), (1, 0), ""),
    ((), 1, ("get", 0, (), ()), FIRST, None, ""),
    ((1,), 0, ("get", 5, (), (1,)), (), (0, 4), "number"),
    ((1, 2), 7, ("put", 5, (4,), ()), ((1,), 2), (0, MAX), ""),
)
BUNDLE = (((3, 0), 7), "Cell", (4, NIL, ("ref", FIRST), -5), ENTRIES, 2)
TEXT = """object p.3.0#7 maker Cell count 2 fields 4 nil p#0 -5
frame p depth 0 op start at 2 back - token 1,0 word - locals 0 nil stack p.3.10#4 -7
frame p depth 1 op get at 0 back p#0 token - word - locals stack
frame p.1 depth 0 op get at 5 back - token 0,4 word number locals stack 1
frame p.1.2 depth 7 op put at 5 back p.1#2 token 0,1000000000000 word - locals 4 stack
"""
LINES = TEXT.split("\n")[:-1]

BAD_NATURALS = (-1, MAX + 1, "1", "", None, (), (1,), NIL)
BAD_PROCESSES = (0, "p", "", None, (-1,), (MAX + 1,), ("0",), (None,), ((),), (0, 1, ()), ((0,), 1))
BAD_OBJECTS = (0, "p#0", None, (), ((),), ((), 0, 0), (0, ()), ((), ()), ((), "0"), ((), None), ((), -1), ((), MAX + 1),
               ((-1,), 0), ((MAX + 1,), 0), (0, 0), (None, 0), ("", 0), NIL, ("ref", FIRST))
BAD_NAMES = ("int", "self", "nil", "interface", "", "abcdefghijklm", "1a", "a b", "a_b", "Start ", 5, None, (), ("start",))
BAD_VALUES = (MAX + 1, -MAX - 1, "5", "", "nil", None, (), ("nil", 5), ("nil", ()), ("ref",), ("ref", ()), ("ref", FIRST, 0),
              ("ref", ((), -1)), ("ref", ((), MAX + 1)), ("ref", 5), ("ref", None), ("int", 5), ("nul",), (NIL,), (5,),
              ("Ref", FIRST), ("ref", "p#0"))
BAD_ROWS = (0, None, "", "x")

# What may, and what may not, stand at a place in BUNDLE.
PLACES = (
    ((0,), (FIRST, ((MAX,), MAX), ((1, 2, 3), 0)), BAD_OBJECTS),
    ((0, 0), ((), (0,), (MAX, 0)), BAD_PROCESSES),
    ((0, 1), (0, MAX), BAD_NATURALS),
    ((1,), ("start", "M", "abcdefghijkl", "x1"), BAD_NAMES),
    ((2,), ((), (1,)), BAD_ROWS),
    ((2, 0), (0, 1, -1, MAX, -MAX, NIL, ("ref", FIRST)), BAD_VALUES),
    ((2, 3), (0, 1, -1, MAX, -MAX, NIL, ("ref", FIRST)), BAD_VALUES),
    ((3,), ((), ENTRIES[:1], ENTRIES[2:]), BAD_ROWS + ((0,), (None,), ((),), ("x",))),
    ((4,), (0, 3, MAX), BAD_NATURALS),
    ((3, 2), (), (0, None, "", ())),
    ((3, 2, 0), ((0,), (0, 5), (1, 1)), BAD_PROCESSES),
    ((3, 1, 1), (1, 2, MAX), BAD_NATURALS),
    ((3, 3, 1), (1, 2, MAX), BAD_NATURALS),
    ((3, 2, 2), (("start", 0, (), ()),), BAD_ROWS + ((),)),
    ((3, 2, 2, 0), ("start", "M", "abcdefghijkl"), BAD_NAMES),
    ((3, 2, 2, 1), (0, MAX), BAD_NATURALS),
    ((3, 0, 2, 2), ((), (1, 2, 3)), BAD_ROWS),
    ((3, 0, 2, 3), ((), (1, 2, 3)), BAD_ROWS),
    ((3, 0, 2, 2, 1), (0, -MAX, NIL, ("ref", FIRST)), BAD_VALUES),
    ((3, 0, 2, 3, 0), (0, -MAX, NIL, ("ref", FIRST)), BAD_VALUES),
    ((3, 0, 3), ((),), (FIRST, ((1,), 2), 0, None, "", "-", ((),))),
    ((3, 2, 3), ((),), (FIRST, ((1,), 2), 0, None, "", "-", ((),))),
    ((3, 1, 3), (FIRST, ((MAX,), MAX)), BAD_OBJECTS),
    ((3, 0, 4), (None, (0, 0), (MAX, MAX)), ((), (0,), (0, 0, 0), 0, "", "0,0")),
    ((3, 0, 4, 0), (0, MAX), BAD_NATURALS),
    ((3, 0, 4, 1), (0, MAX), BAD_NATURALS),
    ((3, 2, 4), ((0, 0),), (None, (), (0,), 0)),
    ((3, 2, 5), ("number", "large", "nil", ""), ("Number", "nul", "-", " ", "large ", 0, None, (), ("nil",))),
    ((3, 1, 5), ("",), ("number", "large", "nil", None, 0, ())),
)
FIXED = ((), (0,), (3, 0), (3, 0, 2), (3, 0, 4), (3, 3), (3, 3, 3), (2, 1), (2, 2))


def part_at(tree, path):
    for k in path:
        tree = tree[k]
    return tree


def replaced(tree, path, part):
    if path == ():
        return part
    k = path[0]
    return tree[:k] + (replaced(tree[k], path[1:], part),) + tree[k + 1:]


class Form(unittest.TestCase):
    def test_good(self):
        for bundle in (BUNDLE, (FIRST, "start", (), (), 0), (FIRST, "start", (), ENTRIES[:1], MAX)):
            self.assertIs(is_bundle(bundle), True)

    def test_each_part(self):
        for path, good, bad in PLACES:
            for part in good:
                self.assertIs(is_bundle(replaced(BUNDLE, path, part)), True, (path, part))
            for part in bad:
                self.assertIs(is_bundle(replaced(BUNDLE, path, part)), False, (path, part))

    def test_lengths(self):
        for path in FIXED:
            part = part_at(BUNDLE, path)
            for other in (part[:-1], part[1:], part + (0,), part + ("",), part + (None,), (0,) + part, ()):
                self.assertIs(is_bundle(replaced(BUNDLE, path, other)), False, (path, other))

    def test_order_of_entries(self):
        for k in range(3):
            swapped = ENTRIES[:k] + (ENTRIES[k + 1], ENTRIES[k]) + ENTRIES[k + 2:]
            self.assertIs(is_bundle(replaced(BUNDLE, (3,), swapped)), False)
        for k in range(4):
            self.assertIs(is_bundle(replaced(BUNDLE, (3,), ENTRIES[:k + 1] + ENTRIES[k:])), False)
        other = ENTRIES[0][:2] + (("other", 9, (), ()), (), None, "")
        self.assertIs(is_bundle(replaced(BUNDLE, (3,), (ENTRIES[0], other))), False)
        self.assertIs(is_bundle(replaced(BUNDLE, (3,), (other, ENTRIES[0]))), False)

    def test_order_by_numbers(self):
        entries = [((), 9), ((), 10), ((2,), 0), ((2,), 5), ((2, 0), 0), ((10,), 0), ((10, 1), 0)]
        rows = [(process, depth) + (ENTRIES[2][2:] if depth == 0 else ENTRIES[1][2:]) for process, depth in entries]
        self.assertIs(is_bundle(replaced(BUNDLE, (3,), tuple(rows))), True)
        for k in range(6):
            self.assertIs(is_bundle(replaced(BUNDLE, (3,), (rows[k + 1], rows[k]))), False)

    def test_depth_and_back(self):
        self.assertIs(is_bundle(replaced(BUNDLE, (3, 1, 1), 0)), False)
        self.assertIs(is_bundle(replaced(BUNDLE, (3, 0, 1), 1)), False)
        self.assertIs(is_bundle(replaced(BUNDLE, (3,), ENTRIES[1:2])), True)
        self.assertIs(is_bundle(replaced(BUNDLE, (3,), (((), 0) + ENTRIES[1][2:],))), False)
        self.assertIs(is_bundle(replaced(BUNDLE, (3,), (((), 1) + ENTRIES[0][2:],))), False)

    def test_other_tuples(self):
        deep = ()
        for _ in range(90):
            deep = (deep,)
        for value in ((), (0,), ("",), (None,), BUNDLE[:4], BUNDLE + (0,), (BUNDLE,), deep, (deep,) * 5,
                      (FIRST, "start", (deep,), (), 0), (FIRST, "start", (), (deep,), 0), (None,) * 5, ("",) * 5, (0,) * 5):
            self.assertIs(is_bundle(value), False)

    def test_random(self):
        for seed in range(300):
            bundle = Bundles(seed).bundle()
            self.assertIs(is_bundle(bundle), True, bundle)


class Texts(unittest.TestCase):
    def test_examples(self):
        entry = ((), 0, ("start", 2, (("ref", ((), 1)),), (7,)), (), (2, 0), "")
        bundle = (((), 0), "start", (), (entry,), 3)
        text = 'object p#0 maker start count 3 fields\nframe p depth 0 op start at 2 back - token 2,0 word - locals p#1 stack 7\n'
        self.assertEqual(bundle_text(bundle), text)
        self.assertEqual(read_bundle(text), bundle)
        self.bad("object p#0 maker start count 03 fields\n", 1)

    def bad(self, text, line):
        with self.assertRaises(BadForm, msg=text) as caught:
            read_bundle(text)
        self.assertEqual(caught.exception.line, line, text)

    def test_there_and_back(self):
        self.assertEqual(bundle_text(BUNDLE), TEXT)
        self.assertEqual(read_bundle(TEXT), BUNDLE)

    def test_random_there_and_back(self):
        for seed in range(400):
            bundle = Bundles(seed).bundle()
            text = bundle_text(bundle)
            self.assertIsNone(bad_line(text), text)
            self.assertEqual(read_bundle(text), bundle)

    def test_words_as_names(self):
        """Names that are words of a line make no line hard to read."""
        entry = ((), 0, ("stack", 0, (), ()), (), None, "")
        bundle = (FIRST, "fields", (), (entry, ((), 1, ("locals", 0, (1,), (2,)), FIRST, None, "")), 0)
        self.assertEqual(read_bundle(bundle_text(bundle)), bundle)

    def test_ends_of_lines(self):
        self.bad("", 1)
        self.bad("\n", 1)
        self.bad("\n" + TEXT, 1)
        self.bad(LINES[0], 1)
        self.bad(LINES[0] + "\n\n", 2)
        self.bad(LINES[0] + "\n ", 2)
        self.bad(TEXT[:-1], 5)
        self.bad(TEXT + "\n", 6)
        self.bad(TEXT + " ", 6)
        self.bad(TEXT.replace("\n", "\n\n", 1), 2)
        self.bad(TEXT.replace("\n", " "), 1)

    def test_places_of_lines(self):
        self.bad(TEXT + TEXT, 6)
        self.bad(LINES[0] + "\n" + TEXT, 2)
        self.bad("\n".join(LINES[1:]) + "\n", 1)
        self.bad(LINES[1] + "\n" + TEXT, 1)

    def test_order_of_entries(self):
        for k in (1, 2, 3):
            rows = LINES[:k] + [LINES[k + 1], LINES[k]] + LINES[k + 2:]
            self.bad("\n".join(rows) + "\n", k + 2)
            rows = LINES[:k + 1] + LINES[k:]
            self.bad("\n".join(rows) + "\n", k + 2)
        self.bad(LINES[0] + "\n" + LINES[4] + "\n" + LINES[3] + "\n", 3)

    def test_each_word(self):
        """Each word of each line left out, doubled, with a capital, with a second space, and with a sign at its end."""
        for number, line in enumerate(LINES, 1):
            words = line.split(" ")
            for k, word in enumerate(words):
                self.changed(number, words[:k] + words[k + 1:])
                self.changed(number, words[:k] + [word] + words[k:])
                self.changed(number, words[:k] + [""] + words[k:])
                self.changed(number, words[:k] + [""] + words[k + 1:])
                for other in (word.capitalize(), word.upper(), word + ".", "." + word, word + "#", word + ",", "0" + word,
                              "+" + word, "-" + word, word + "0", "-0", "-", "nil", "p", "p#", "p.#0", "p#00", "p#-1", "P#1",
                              "p.01#0", "p.-1#0", "p .1#0", "1000000000001", "-1000000000001", "10000000000000", "9" * 5000,
                              "1,", ",1", "1,2,3", "01,2", "1,02", "1,-1", "1_0", "0x1", "1e3", "int", "start", "number"):
                    self.changed(number, words[:k] + [other] + words[k + 1:])
            self.changed(number, words + [""])
            self.changed(number, [""] + words)

    def changed(self, number, words):
        """What the text is with another line of this number: the same as the regular expressions say."""
        text = "\n".join(LINES[:number - 1] + [" ".join(words)] + LINES[number:]) + "\n"
        self.as_told(text)

    def as_told(self, text):
        line = bad_line(text)
        if line is not None:
            self.bad(text, line)
            return False
        bundle = read_bundle(text)
        self.assertTrue(is_bundle(bundle))
        self.assertEqual(bundle_text(bundle), text)
        return True

    def test_parts_that_cannot_be(self):
        for number, old, new in (
            (1, "count 2", "count 02"), (1, "count 2", "count -2"), (1, "count 2", "count 1000000000001"),
            (1, "Cell", "int"), (1, "Cell", "abcdefghijklm"), (1, "-5", "-0"), (1, "-5", "-05"), (1, "-5", "- 5"),
            (1, "-5", "-1000000000001"), (1, "p.3.0#7", "p.3.0"), (1, "p.3.0#7", "p.3.0#7#1"), (1, "p.3.0#7", "p.3..0#7"),
            (1, "fields", "fields "), (1, " fields 4 nil p#0 -5", ""), (1, "nil", "Nil"), (1, "object", "Object"),
            (2, "back -", "back p#0"), (2, "depth 0", "depth 1"), (2, "token 1,0", "token 1"), (2, "token 1,0", "token 1, 0"),
            (2, "word -", "word fault"), (2, "word -", "word "), (2, "word -", "word"), (2, " stack p.3.10#4 -7", ""),
            (2, "locals 0 nil", "locals 0 nil stack"), (2, "at 2", "at -2"), (2, "op start", "op int"),
            (3, "back p#0", "back -"), (3, "depth 1", "depth 0"), (3, "word -", "word nil"), (3, "locals stack", "locals  stack"),
            (3, "locals stack", "locals stack "), (3, "locals stack", "stack locals"),
            (4, "token 0,4", "token -"), (4, "frame p.1", "frame p"), (4, "frame p.1 depth 0", "frame p depth 1"),
        ):
            self.assertIn(old, LINES[number - 1])
            lines = LINES[:number - 1] + [LINES[number - 1].replace(old, new)] + LINES[number:]
            self.bad("\n".join(lines) + "\n", number)

    def test_the_first_bad_line(self):
        for first in range(1, 5):
            for second in range(first + 1, 6):
                lines = [line + " x" if at in (first, second) else line for at, line in enumerate(LINES, 1)]
                self.bad("\n".join(lines) + "\n", first)
                self.bad("\n".join(lines), first)

    def test_spoilt_texts(self):
        good = 0
        for seed in range(1500):
            bundles = Bundles(seed)
            good += self.as_told(bundles.spoilt(bundle_text(bundles.bundle())))
        self.assertTrue(100 < good < 1200, good)


if __name__ == "__main__":
    unittest.main()
