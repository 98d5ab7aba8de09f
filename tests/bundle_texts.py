"""The form of the texts of bundles as regular expressions, and random bundles."""

import random
import re

from portage.trees import WORDS

NUMBER = "(?:0|[1-9][0-9]{0,11}|1000000000000)"
PROCESS = rf"p(?:\.{NUMBER})*"
OBJECT = f"{PROCESS}#{NUMBER}"
VALUES = f"(?: (?:{NUMBER}|-(?!0){NUMBER}|nil|{OBJECT}))*"
NAME = "([A-Za-z][A-Za-z0-9]{0,11})"
HEAD = re.compile(f"object {OBJECT} maker {NAME} count {NUMBER} fields{VALUES}")
FRAME = re.compile(
    f"frame ({PROCESS}) depth ({NUMBER}) op {NAME} at {NUMBER} back (-|{OBJECT}) token (-|{NUMBER},{NUMBER}) "
    f"word (-|number|large|nil) locals{VALUES} stack{VALUES}")


def bad_line(text):
    """The number of the first bad line of a text, None if there is none."""
    lines = re.findall("[^\n]*\n|[^\n]+$", text) or [""]
    last = ()
    for number, line in enumerate(lines, 1):
        if not line.endswith("\n"):
            return number
        found = (HEAD if number == 1 else FRAME).fullmatch(line[:-1])
        if found is None:
            return number
        if found[1 if number == 1 else 3] in [word for word in WORDS if word != "start"]:
            return number
        if number > 1:
            if (found[2] == "0") != (found[4] == "-") or (found[6] != "-" and found[5] == "-"):
                return number
            key = ([int(part) for part in found[1].split(".")[1:]], int(found[2]))
            if last and not key > last:
                return number
            last = key
    return None


class Bundles:
    """Random bundles, the same for the same seed."""

    def __init__(self, seed):
        self.random = random.Random(seed)

    def number(self):
        return self.random.choice([0, 1, 2, 10, 999999999999, 1000000000000, self.random.randrange(10 ** 12)])

    def process(self):
        return tuple([self.random.choice([0, 1, 2, 10, self.number()]) for _ in range(self.random.choice([0, 1, 1, 2, 4]))])

    def object(self):
        return (self.process(), self.number())

    def name(self):
        return self.random.choice(["start", "get", "M", "abcdefghijkl", "fields", "stack", "locals", "p", "nil2", "x1"])

    def value(self):
        return self.random.choice([self.number(), -self.number(), ("nil",), ("ref", self.object())])

    def values(self):
        return tuple([self.value() for _ in range(self.random.choice([0, 0, 1, 2, 5]))])

    def entry(self, process, depth):
        frame = (self.name(), self.number(), self.values(), self.values())
        token = self.random.choice([None, (self.number(), self.number())])
        word = self.random.choice(["", "", "number", "large", "nil"]) if token else ""
        return (process, depth, frame, self.object() if depth > 0 else (), token, word)

    def bundle(self):
        keys = {(self.process(), self.random.choice([0, 0, 1, 2, self.number()])) for _ in range(self.random.randrange(5))}
        entries = tuple([self.entry(process, depth) for process, depth in sorted(keys)])
        return (self.object(), self.name(), self.values(), entries, self.number())

    def spoilt(self, text):
        """The text with one change, which may make it a text of another bundle."""
        way = self.random.randrange(6)
        if way == 0:
            at = self.random.randrange(len(text))
            return text[:at] + text[at + 1:]
        if way == 1:
            at = self.random.randrange(len(text) + 1)
            return text[:at] + self.random.choice("0 1-.#,pnNA\n_9") + text[at:]
        if way == 2:
            at = self.random.randrange(len(text))
            return text[:at] + self.random.choice("0 1-.#,pnNA\n_9") + text[at + 1:]
        rows = text.split("\n") if way < 4 else text.split(" ")
        at = self.random.randrange(len(rows))
        other = self.random.randrange(len(rows))
        if way == 3 or way == 5:
            rows[at], rows[other] = rows[other], rows[at]
        elif self.random.randrange(2):
            rows.insert(at, rows[other])
        else:
            del rows[at]
        return ("\n" if way < 4 else " ").join(rows)
