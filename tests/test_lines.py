import unittest

from portage.lines import read_command

ALONE = ("gather", "settle", "balance", "air", "order", "prints", "processes", "look", "same")
WITH_A_NUMBER = ("begin", "commit", "send", "deliver", "fall", "ready", "at")
NO_NUMBERS = ("", "-1", "+1", "01", "00", "10000", "99999", "123456789", "a", "1a", "p", "1.0", "1,0", "\n", "nil", "\u0661")
NO_PROCESSES = ("", "0", "P", "p.", "p.01", "p.10000", "p.0#1", "p.-1", "q", "()", "p.a", "p..1")
NO_OBJECTS = ("", "0", "p", "p.0", "p#", "P#0", "p#01", "p#10000", "p.01#0", "p.10000#0", "#0", "p#-1", "p.#0", "p#0#0")


class Commands(unittest.TestCase):
    def read(self, line, expected):
        self.assertEqual(read_command(line), expected, repr(line))

    def refuse(self, *lines):
        for line in lines:
            self.assertIsNone(read_command(line), repr(line))

    def test_the_empty_line(self):
        self.read("", ())

    def test_lines_of_the_source(self):
        self.read("line", ("line", ""))
        self.read("line ", ("line", ""))
        self.read("line start { return 1; }", ("line", "start { return 1; }"))
        self.read("line  a", ("line", " a"))
        self.read("line     ", ("line", "    "))
        self.read("line   let x: int = 1;  ", ("line", "  let x: int = 1;  "))
        self.read("line line", ("line", "line"))
        self.read("line settle", ("line", "settle"))
        self.read("line ~!?", ("line", "~!?"))
        self.refuse("lines", "Line", "LINE", "linex", "line: a", " line", " line a", "lin", "line\ta")

    def test_alone(self):
        for word in ALONE:
            self.read(word, (word,))
            self.refuse(word + " ", " " + word, word + " 1", word + " p", word + " " + word, word.upper(), word.capitalize(), word + "s",
                        word[:-1], word + ".", word + "\t", word + "-")

    def test_with_a_number(self):
        for word in WITH_A_NUMBER:
            for number in (0, 1, 9, 10, 100, 9999):
                self.read(f"{word} {number}", (word, number))
            self.refuse(word, word + " ", f" {word} 1", f"{word}  1", f"{word} 1 ", f"{word} 1 2", f"{word}1", f"{word.upper()} 1",
                        f"{word.capitalize()} 1", f"{word}s 1", f"1 {word}", f"{word} p", f"{word} p#0")
            for number in NO_NUMBERS:
                self.refuse(f"{word} {number}")

    def test_work(self):
        self.read("work 0 p", ("work", 0, ()))
        self.read("work 9999 p.0.2", ("work", 9999, (0, 2)))
        self.read("work 3 p.9999", ("work", 3, (9999,)))
        self.refuse("work", "work ", "work 0", "work 0 ", "work p", "work p 0", "work 0 p 1", "work 0 p ", "work  0 p", "work 0  p",
                    " work 0 p", "Work 0 p", "work 0 0", "work 0 p.0 2", "work 0p", "work 0 p#0")
        for process in NO_PROCESSES:
            self.refuse(f"work 0 {process}")
        for number in NO_NUMBERS:
            self.refuse(f"work {number} p")

    def test_push(self):
        self.read("push 0 p#0 1", ("push", 0, ((), 0), 1))
        self.read("push 9999 p.0.12#9999 0", ("push", 9999, ((0, 12), 9999), 0))
        self.refuse("push", "push 0", "push 0 p#0", "push p#0 1", "push 0 1 p#0", "push 0 p#0 1 2", "push 0 p#0 1 ", "push 0  p#0 1",
                    "push 0 p#0  1", " push 0 p#0 1", "PUSH 0 p#0 1", "push 0 p 1", "push 0 p.0 1")
        for name in NO_OBJECTS:
            self.refuse(f"push 0 {name} 1")
        for number in NO_NUMBERS:
            self.refuse(f"push {number} p#0 1", f"push 0 p#0 {number}")

    def test_unknown_words(self):
        self.refuse(" ", "  ", "x", "-", "run", "help", "p", "0", "begin-1", "state", "quit 1", "picture", "replayed", "reached", "ok",
                    "print", "process", "stop 0", "None", "number", "number 1", "#", "gather 0")

    def test_kinds_of_values(self):
        for line in ("begin 1", "work 0 p.1", "push 0 p#0 1", "settle", "line", ""):
            self.assertIsInstance(read_command(line), tuple)
        self.assertIs(type(read_command("begin 1")[1]), int)


if __name__ == "__main__":
    unittest.main()
