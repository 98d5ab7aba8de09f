import random
import re
import unittest

from portage.checks import check_program
from portage.compiler import compile_program
from portage.desk import run_script
from portage.errors import BadForm, BadKind, NotAllowed, TooLarge
from portage.picture import look, picture, replayed
from portage.reader import read_program
from portage.settle import balance, is_quiet, settle
from portage.trim import trim
from portage.world import World
from portage.writer import program_text
from tests.goods import Goods
from tests.programs import CHURN, COUNTER, ENDLESS, FAULTS, LEAVING, ROVING, SHORT, SWARM

NEEDS = ("work 0 p", "commit 0", "send 0", "deliver 0", "fall 0", "push 0 p#0 1", "gather", "settle", "balance", "ready 0", "at 0",
         "air", "order", "prints", "processes", "look", "same")


def source(text):
    """The lines that put a text into the source."""
    return ["line " + line for line in text.strip().split("\n")]


def answers(*lines):
    return run_script("\n".join(lines))


class Lengths(unittest.TestCase):
    def test_example(self):
        self.assertEqual(
            run_script("line start { print 4; return 5; }\nbegin 2\nwork 0 p\nsettle\nprints\nprocesses\nsame"),
            ["ok", "ok", "ok", "1", "p=4", "p=5", "yes"])

    def test_empty(self):
        self.assertEqual(run_script(""), [""])
        self.assertEqual(run_script("\n"), ["", ""])
        self.assertEqual(run_script("air\n\n\nair\n"), ["missing", "", "", "missing", ""])

    def test_lines(self):
        self.assertEqual(run_script("\n" * 199), [""] * 200)
        self.assertEqual(run_script("\n".join(["air"] * 200)), ["missing"] * 200)
        for script in ("\n" * 200, "\n".join(["air"] * 201), "\n" * 7999):
            with self.assertRaises(NotAllowed):
                run_script(script)

    def test_characters(self):
        self.assertEqual(run_script("line " + "a" * 7995), ["ok"])
        self.assertEqual(run_script("x" * 8000), ["bad"])
        self.assertEqual(run_script("air\n" + "x" * 7996), ["missing", "bad"])
        for script in ("line " + "a" * 7996, "x" * 8001, "air\n" + "x" * 7997, ("x" * 100 + "\n") * 80):
            with self.assertRaises(NotAllowed):
                run_script(script)

    def test_a_new_desk_each_time(self):
        self.assertEqual(answers(*source(SHORT)), ["ok"])
        self.assertEqual(answers("begin 1", "air"), ["form 1", "missing"])
        self.assertEqual(answers(*source(SHORT), "begin 1", "settle"), ["ok", "ok", "1"])
        self.assertEqual(answers("order", "prints"), ["missing", "missing"])


class Beginning(unittest.TestCase):
    def test_numbers_of_places(self):
        for number, answer in ((0, "refused"), (1, "ok"), (2, "ok"), (8, "ok"), (9, "refused"), (9999, "refused")):
            found = answers(*source(SHORT), f"begin {number}", "at 0", f"at {max(number - 1, 0)}", f"at {number}", "begin 8", "at 7")
            if answer == "ok":
                self.assertEqual(found, ["ok", "ok", "p#0", "p#0" if number == 1 else "-", "refused", "form 1",
                                         "-" if number == 8 else "refused"])
            else:
                # The source stays, so that the second one begins.
                self.assertEqual(found, ["ok", "refused", "missing", "missing", "missing", "ok", "-"])

    def test_missing(self):
        self.assertEqual(answers(*NEEDS), ["missing"] * len(NEEDS))
        self.assertEqual(answers("ready 9", "at 9999", "work 9 p.9", "deliver 9999"), ["missing"] * 4)
        self.assertEqual(answers("ready -1", "work 0", "air 1"), ["bad"] * 3)

    def test_form(self):
        for lines, number in ((["start {", "return 1", "}"], 3), (["start { return 1; } x"], 1), (["start { return 1;"], 2),
                              (["", "", "start { return 01; }"], 3), (["start {", "", "", "return }"], 4), (["$"], 1),
                              (["start { return 1; }", "", "$"], 3), (["start { return 1; }", "interface"], 2)):
            found = answers(*["line " + line for line in lines], "begin 1", "air", "begin 9", "begin 0")
            self.assertEqual(found[len(lines):], [f"form {number}", "missing", f"form {number}", f"form {number}"])
        self.assertEqual(answers("begin 1", "begin 9", "line", "line", "begin 1", "air"), ["form 1", "form 1", "ok", "ok", "form 3", "missing"])

    def test_a_bad_source_stays(self):
        self.assertEqual(answers("line start {", "begin 1", "line return 1;", "begin 2", "line }", "begin 3", "begin 2"),
                         ["ok", "form 2", "ok", "form 3", "ok", "ok", "form 1"])

    def test_large(self):
        deep = "1" + " + 1" * 30
        found = answers("line start { return " + deep + "; }", "begin 2", "begin 0", "air")
        self.assertEqual(found, ["ok", "large", "large", "missing"])
        many = ["line 1; 1; 1; 1; 1; 1; 1; 1; 1; 1;"] * 30
        self.assertEqual(answers("line start {", *many, "line return 1; }", "begin 2")[-1], "large")
        self.assertEqual(answers("line start {", *many[:-1], "line 1; 1; 1; 1; 1; 1; 1; 1; 1;", "line return 1; }", "begin 2")[-1], "ok")

    def test_kind(self):
        for text, place in (("start { return nil; }", "start"), ("start { return x; }", "start"),
                            ("interface A { } interface A { } start { return 1; }", "names"),
                            ("interface A { f(B): int; } start { return 1; }", "interface A"),
                            ("maker M(a: int) { field a: int; } start { return 1; }", "maker M"),
                            ("maker M() { op get(): int { } } start { return nil; }", "maker M op get")):
            found = answers("line " + text, "begin 9", "begin 1", "air", "line", "begin 3")
            self.assertEqual(found, ["ok", f"kind {place}", f"kind {place}", "missing", "ok", f"kind {place}"])

    def test_form_before_kind(self):
        self.assertEqual(answers("line start { return nil; } x", "begin 9"), ["ok", "form 1"])

    def test_lines_of_the_source(self):
        found = answers("line start", "line", "line   {", "line ", "line print 1;   return", "line 2; }", "begin 1", "settle", "prints")
        self.assertEqual(found, ["ok"] * 7 + ["1", "p=1"])
        # A newline stands behind each line, so that words do not run together.
        self.assertEqual(answers("line start { let a: int =", "line 1; return", "line a; }", "begin 1"), ["ok"] * 4)
        self.assertEqual(answers("line start { return 1", "line 2; }", "begin 1"), ["ok", "ok", "form 2"])

    def test_twice(self):
        found = answers(*source(SHORT), "begin 2", "settle", "prints", "line start { return 3; }", "prints", "begin 1", "prints",
                        "order", "processes", "at 1", "settle", "processes")
        self.assertEqual(found, ["ok", "ok", "1", "p=4", "ok", "p=4", "ok", "-", "0", "p=run", "refused", "1", "p=3"])

    def test_an_older_world_stays_if_it_fails(self):
        found = answers(*source(SHORT), "begin 2", "settle", "begin 2", "prints", *source(COUNTER), "begin 9", "prints", "begin 3",
                        "prints")
        self.assertEqual(found[:4], ["ok", "ok", "1", "form 1"])
        self.assertEqual(found[-5:], ["ok", "refused", "p=4", "ok", "-"])


class Answers(unittest.TestCase):
    def test_events(self):
        lines = source(COUNTER)
        script = ["begin 3", "work 0 p", "work 0 p.0", "work 3 p", "work 1 p", "ready 0", "ready 1", "ready 3", "at 0", "at 1", "at 9999"]
        self.assertEqual(answers(*lines, *script)[len(lines):], [
            "ok", "ok", "refused", "refused", "refused", "p", "-", "refused", "p#0 p#1", "-", "refused"])
        script = ["begin 3"] + ["work 0 p"] * 8 + ["work 0 p", "ready 0", "at 0", "air", "order", "commit 0", "order", "send 0", "air",
                                                  "deliver 3", "deliver 2", "deliver 1", "ready 1", "at 1", "deliver 1", "fall 1",
                                                  "at 1", "deliver 0", "deliver 1", "ready 1", "deliver 2", "ready 1", "work 1 p"]
        self.assertEqual(answers(*lines, *script)[len(lines):], ["ok"] * 9 + [
            "refused", "-", "p#0", "0", "0", "ok", "8", "ok", "3", "refused", "ok", "ok", "p", "p#1", "ok", "ok", "-", "ok", "ok", "-",
            "ok", "p", "ok"])

    def test_commit_send_and_fall(self):
        for word in ("commit", "send", "fall"):
            self.assertEqual(answers(*source(SHORT), "begin 2", f"{word} 0", f"{word} 1", f"{word} 2", f"{word} 9999", f"{word} -1"),
                             ["ok", "ok", "ok", "ok", "refused", "refused", "bad"])

    def test_push(self):
        script = ["push 0 p#0 0", "push 0 p#0 2", "push 0 p#1 1", "push 1 p#0 0", "push 2 p#0 0", "at 0", "push 0 p#0 1", "at 0",
                  "push 0 p#0 1", "commit 0", "send 0", "air", "deliver 0", "at 1", "ready 1", "processes"]
        self.assertEqual(answers(*source(SHORT), "begin 2", *script)[2:], [
            "refused"] * 5 + ["p#0", "ok", "-", "refused", "ok", "ok", "1", "ok", "p#0", "p", "p=run"])

    def test_gather(self):
        self.assertEqual(answers(*source(SHORT), "begin 2", "gather", "gather", "work 0 p", "push 0 p#0 1", "ready 0", "settle", "gather",
                                 "settle", "at 0", "at 1", "look", "same"),
                         ["ok", "ok", "ok", "refused", "refused", "refused", "p", "4", "ok", "4", "-", "-", "sound", "yes"])
        self.assertEqual(answers(*source(SHORT), "begin 1", "gather", "gather", "at 0", "settle", "at 0", "gather", "at 0", "processes"),
                         ["ok", "ok", "ok", "ok", "p#0", "1", "p#0", "ok", "-", "p=5"])

    def test_settle(self):
        self.assertEqual(answers(*source(SHORT), "begin 2", "settle", "settle", "prints"), ["ok", "ok", "1", "0", "p=4"])
        found = answers(*source(ENDLESS), "begin 1", "settle", "order", "settle", "order", "look", "same", "processes")
        self.assertEqual(found, ["ok", "ok", "large", "2400", "large", "4800", "sound", "yes", "p=run"])

    def test_just_as_many_rounds_as_there_are(self):
        """A round has 40 works, and a turn of the loop has 7."""
        text = "start {{ let k: int = 0; while k < {0} {{ k = k + 1; }} return 0; }}"
        for turns, expected in ((296, "60"), (301, "60"), (304, "large"), (299, "60")):
            steps = 2 + turns * 9 + 4 + 2
            found = answers("line " + text.format(turns), "begin 1", "settle", "order")
            self.assertEqual(found[2], "large" if steps > 2400 else str(-(-steps // 40)), (turns, steps))
            self.assertEqual(found[3], str(min(steps, 2400)))

    def test_balance(self):
        text = "maker M() { } start { new M(); new M(); new M(); new M(); return 0; }"
        self.assertEqual(answers("line " + text, "begin 2", "settle", "balance", "balance", "at 0", "settle", "at 0", "at 1", "balance",
                                 "same"),
                         ["ok", "ok", "2", "4", "0", "p#4", "2", "p#4", "p#0 p#1 p#2 p#3", "2", "yes"])
        self.assertEqual(answers("line " + text, "begin 2", "balance", "gather", "balance"), ["ok", "ok", "0", "ok", "0"])
        self.assertEqual(answers("line " + text, "begin 1", "settle", "balance"), ["ok", "ok", "1", "0"])

    def test_lists(self):
        text = "interface I { go(): int; } maker M() { op go(): int { print self; print nil; return 1; } } start { " \
               "let m: I = new M(); fork m.go(); fork new M().go(); print 0 - 7; return m.go(); }"
        found = answers("line " + text, "begin 1", "prints", "order", "ready 0", "at 0", "processes", *["work 0 p"] * 6, "ready 0", "at 0",
                        "prints", "processes", "settle", "prints", "ready 0", "at 0", "processes")
        self.assertEqual(found[2:7], ["-", "0", "p", "p#0", "p=run"])
        self.assertEqual(found[13:17], ["p p.0 p.1", "p#0 p#1 p#2", "-", "p=run"])
        self.assertEqual(found[18:], ["p=-7 p=p#1 p=nil p.0=p#1 p.0=nil p.1=p#2 p.1=nil", "-", "p#0 p#1 p#2", "p=1 p.0=1 p.1=1"])

    def test_processes(self):
        found = answers(*source(FAULTS), "begin 3", "settle", "processes", "ready 0", "ready 1", "look", "same")
        self.assertEqual(found[-6:], ["3", "p=1000000000000 p.0=large p.1=nil p.2=nil", "-", "-", "sound", "yes"])
        text = "interface I { } maker M() { } start { let m: I = new M(); if 1 < 2 { return 1; } return 0; }"
        self.assertEqual(answers("line " + text.replace("return 1", "m == nil; return 0 - 5"), "begin 1", "settle", "processes")[-1], "p=-5")
        text = "interface I { go(): I; } maker M() { op go(): I { return self; } } start { fork new M().go(); return 0; }"
        self.assertEqual(answers("line " + text, "begin 2", "settle", "processes")[-1], "p=0 p.0=p#1")
        self.assertEqual(answers("line " + text.replace("return self", "return nil"), "begin 2", "settle", "processes")[-1], "p=0 p.0=nil")

    def test_the_picture_is_of_what_is_kept(self):
        found = answers(*source(SHORT), "begin 1", *["work 0 p"] * 4, "processes", "prints", "order", "same", "commit 0", "processes",
                        "prints", "order", "same")
        self.assertEqual(found[6:], ["p=run", "-", "0", "yes", "ok", "p=5", "p=4", "4", "yes"])

    def test_bad(self):
        found = answers(*source(SHORT), "begin 1", "begin", "begin 01", "work 0", "Settle", " air", "air ", "ready", "ready 0 0", "at p",
                        "push 0 p 1", "x", "print", "deliver -1", "order")
        self.assertEqual(found, ["ok", "ok"] + ["bad"] * 13 + ["0"])

    def test_an_error_changes_nothing(self):
        lines = source(SWARM) + ["begin 3", "settle"]
        errors = ["bad", "work 0 p.9", "begin 9", "begin 3", "deliver 9999", "push 0 p#9 1", "ready 3", "fall 3", "commit 9", "send 3"]
        told = ["air", "order", "prints", "processes", "at 0", "at 1", "at 2"]
        found = answers(*lines, *told, *errors, *told)
        self.assertEqual(found[-7:], found[len(lines):len(lines) + 7])
        self.assertEqual(found[-17:-7], ["bad", "refused", "form 1", "form 1"] + ["refused"] * 6)


class Reference:
    """A desk of its own, that answers lines by the functions that the document names."""

    def __init__(self):
        self.source = []
        self.world = None

    def answer(self, line):
        if line == "":
            return ""
        if line == "line" or line.startswith("line "):
            self.source.append(line[5:])
            return "ok"
        number, process, name = "(0|[1-9][0-9]{0,3})", r"p(?:\.(?:0|[1-9][0-9]{0,3}))*", r"p(?:\.(?:0|[1-9][0-9]{0,3}))*#(?:0|[1-9][0-9]{0,3})"
        for form, method in ((f"begin {number}", self.begin), (f"(work) {number} ({process})", self.event),
                             (f"(commit|send|deliver|fall) {number}", self.event), (f"(push) {number} ({name}) {number}", self.event),
                             ("(gather)", self.event), (f"(ready|at) {number}", self.place),
                             ("(settle|balance|air|order|prints|processes|look|same)", self.whole)):
            match = re.fullmatch(form, line)
            if match:
                return "missing" if self.world is None and method != self.begin else method(*match.groups())
        return "bad"

    def value(self, value):
        return str(value) if isinstance(value, int) else "nil" if value[0] == "nil" else self.name(value[1])

    def name(self, name):
        return ".".join(["p"] + [str(k) for k in name[0]]) + "#" + str(name[1])

    def process(self, process):
        return ".".join(["p"] + [str(k) for k in process])

    def read(self, text):
        if text[0] != "p":
            return int(text)
        parts = re.split("[.#]", text)[1:]
        numbers = tuple([int(part) for part in parts])
        return (numbers[:-1], numbers[-1]) if "#" in text else numbers

    def begin(self, number):
        try:
            program = read_program("".join([line + "\n" for line in self.source]))
            check_program(program)
        except BadForm as error:
            return f"form {error.line}"
        except TooLarge:
            return "large"
        except BadKind as error:
            return f"kind {error.place}"
        if not 1 <= int(number) <= 8:
            return "refused"
        self.world = World(compile_program(program), int(number))
        self.source = []
        return "ok"

    def event(self, word, *parts):
        try:
            self.world.do((word,) + tuple([self.read(part) for part in parts]))
        except NotAllowed:
            return "refused"
        return "ok"

    def place(self, word, number):
        if int(number) >= self.world.places():
            return "refused"
        place = self.world.present(int(number))
        if word == "ready":
            return " ".join([self.process(process) for process in place.ready()]) or "-"
        return " ".join([self.name(one[0]) for one in place.bundles()]) or "-"

    def whole(self, word):
        world = self.world
        if word == "settle":
            made = settle(world, 60)
            return str(made) if is_quiet(world) else "large"
        if word == "processes":
            return " ".join([self.process(row[0]) + "=" + (self.value(row[2][1]) if row[2][0] == "done" else row[2][-1])
                             for row in picture(world)[1]])
        return {
            "balance": lambda: str(balance(world)), "air": lambda: str(len(world.air())), "order": lambda: str(len(world.order())),
            "prints": lambda: " ".join([self.process(name) + "=" + self.value(value) for name, value in world.prints()]) or "-",
            "look": lambda: " ".join(look(world)) or "sound",
            "same": lambda: "yes" if trim(picture(world)) == trim(replayed(world)) else "no",
        }[word]()


class DrawnScripts(unittest.TestCase):
    def script(self, seed):
        """The lines of a script, and the answers of the reference."""
        chance = random.Random(seed)
        desk = Reference()
        lines = []
        told = []

        def add(line):
            lines.append(line)
            told.append(desk.answer(line))

        texts = [SHORT, COUNTER, ROVING, LEAVING, FAULTS, SWARM, CHURN]
        text = program_text(Goods(seed, True).program()) if seed % 2 else texts[seed // 2 % 7]
        for line in text.strip().split("\n"):
            add("line " + line)
        if len("\n".join(lines)) > 4500 or len(lines) > 120:
            return None, None
        places = chance.randrange(1, 5)
        add(f"begin {places}")
        while len(lines) < 190:
            self.lines(chance, desk, places, add)
        for word in ("look", "same", "settle", "look", "same", "processes", "prints", "order"):
            add(word)
        return lines, told

    def lines(self, chance, desk, places, add):
        """One or a few lines that go on with the world."""
        p, q = chance.randrange(places + (chance.randrange(8) == 0)), chance.randrange(places)
        word = chance.choice(["works"] * 6 + ["exchange"] * 3 + ["deliver", "fall", "push", "gather", "settle", "balance", "tell", "tell"])
        place = desk.world.present(p) if p < places else desk.world.present(0)
        if word == "works":
            for _ in range(chance.randrange(1, 9)):
                ready = [(q, name) for q in range(places) for name in desk.world.present(q).ready()] or [(0, ())]
                p, process = chance.choice(ready)
                add(f"work {p} " + desk.process(process))
        elif word == "exchange":
            for line in (f"commit {p}", f"send {p}"):
                add(line)
            many = len(desk.world.air())
            for k in range(max(0, many - 6), many):
                if chance.randrange(4):
                    add(f"deliver {k}")
        elif word == "deliver":
            add(f"deliver {chance.randrange(len(desk.world.air()) + 2)}")
        elif word == "push":
            names = [one[0] for one in place.bundles()] or [((), 0)]
            add(f"push {p} {desk.name(chance.choice(names))} {q}")
        elif word == "tell":
            add(chance.choice(["air", "order", "prints", "processes", "look", "same", f"ready {p}", f"at {p}", "", "at", "ready 0 "]))
        else:
            add(word if word in ("gather", "balance") else f"fall {p}" if word == "fall" else word if chance.randrange(8) == 0 else "air")

    def test_drawn_scripts(self):
        met = {}
        for seed in range(70):
            lines, told = self.script(seed)
            if lines is None or len(lines) > 200 or len("\n".join(lines)) > 8000:
                continue
            found = run_script("\n".join(lines))
            self.assertEqual(found, told)
            for line, answer in zip(lines, found):
                if line == "look":
                    self.assertEqual(answer, "sound")
                if line == "same":
                    self.assertEqual(answer, "yes")
                met[(line.split(" ")[0], answer in ("ok", "refused", "large", "bad", "-") and answer)] = True
        for word in ("work", "deliver", "push", "gather"):
            self.assertIn((word, "ok"), met)
            self.assertIn((word, "refused"), met)
        for word in ("commit", "send", "fall"):
            self.assertIn((word, "ok"), met)
        for word in ("settle", "balance", "prints", "ready", "at", "processes"):
            self.assertIn((word, False), met)


if __name__ == "__main__":
    unittest.main()
