"""Random good programs: their makers have the operations of all interfaces, so that each of them fits everywhere."""

import random

A = ("A", (("f", ("int",), "int"), ("g", ("A", "B"), "A")))
B = ("B", (("f", ("int",), "int"), ("h", (), "B")))
C = ("C", ())
OPERATIONS = (
    ("f", (("k", "int"),), "int"),
    ("g", (("a", "A"), ("b", "B")), "A"),
    ("h", (), "B"),
)
MAKERS = {
    "M": ((), (("n", "int", 3), ("other", "A", 0), ("last", "B", 0))),
    "P": (("int", "A"), (("n", "int", -2), ("seen", "C", 0))),
}
CONFORMING = {"A": ("A",), "B": ("B",), "C": ("A", "B", "C")}


class Goods:
    """The programs of one seed; without forks if so asked."""

    def __init__(self, seed, forks):
        self.random = random.Random(seed)
        self.forks = forks
        self.lets = 0
        self.inside = False
        self.scope = []
        self.locked = []
        self.nodes = 0

    def program(self):
        makers = []
        for name, (params, fields) in MAKERS.items():
            held = tuple([(k == 1, f"p{k}", kind) for k, kind in enumerate(params)])
            fields = tuple([(kind == "B",) + (field, kind, first) for field, kind, first in fields])
            makers.append((name, held, fields, tuple([self.operation(row, held + fields) for row in OPERATIONS])))
        self.inside = False
        self.scope = []
        return ((A, B, C), tuple(makers), self.body("int", 6, 5))

    def operation(self, row, held):
        name, params, result = row
        self.inside = True
        self.scope = [(part[1], part[2]) for part in held] + list(params)
        return (name, params, result, self.body(result, self.random.randrange(4), 3))

    def body(self, result, most, depth):
        self.lets = 0
        self.locked = []
        self.nodes = 0
        return self.block(most, depth) + (("return", self.expression(result, 3)),)

    def block(self, most, depth):
        """The statements of a block, whose names are known in the scope only up to its end, but for the outermost one."""
        return tuple([part for _ in range(most) for part in self.statements(depth)])

    def inner(self, depth):
        before = list(self.scope)
        block = self.block(self.random.randrange(1, 3), depth - 1)
        self.scope = before
        return block

    def fresh(self, kind):
        self.lets += 1
        self.scope.append((f"v{self.lets}", kind))
        return f"v{self.lets}"

    def statements(self, depth):
        self.nodes += 1
        simple = ["let", "let", "set", "set", "print", "do", "do", "move"] + ["fork", "fork"] * self.forks
        word = self.random.choice(simple + (["if", "if", "while"] if depth > 1 and self.nodes < 12 else []))
        if word == "let":
            kind = self.random.choice(["int", "A", "B", "C"])
            value = self.expression(kind, 3)
            return [("let", self.fresh(kind), kind, value)]
        if word == "set":
            names = [row for row in self.scope if row[0] not in self.locked]
            if not names:
                return []
            name, kind = self.random.choice(names)
            return [("set", name, self.expression(kind, 3))]
        if word == "if":
            return [("if", self.expression("int", 2), self.inner(depth), self.inner(depth) if self.chance(50) else ())]
        if word == "while":
            return self.loop(depth)
        if word == "move":
            return [("move", self.expression("C", 2), self.expression("int", 2))]
        if word == "fork":
            return [("fork",) + self.call()]
        return [(word, self.expression(self.random.choice(["int", "A", "B", "C"]), 3))]

    def loop(self, depth):
        """A loop that ends, as a rule: its counter is not set in its block."""
        counter = self.fresh("int")
        self.locked.append(counter)
        block = self.inner(depth) + (("set", counter, ("add", ("name", counter), ("int", 1))),)
        condition = ("less", ("name", counter), ("int", self.random.randrange(4)))
        if self.chance(5):
            condition = self.expression("int", 2)
        return [("let", counter, "int", ("int", 0)), ("while", condition, block)]

    def chance(self, of_100):
        return self.random.randrange(100) < of_100

    def names_of(self, kinds):
        return [("name", name) for name, kind in self.scope if kind in kinds]

    def expression(self, kind, depth):
        if kind == "int":
            return self.number(depth)
        found = self.names_of(CONFORMING[kind]) * 2 + [("nil",)] + [("self",)] * (self.inside or kind == "C")
        if depth > 1 and self.chance(50):
            return self.made(depth) if self.chance(60) else self.object_call(kind, depth)
        return self.random.choice(found)

    def number(self, depth):
        if depth <= 1 or self.chance(30):
            literals = [("int", self.random.choice([0, 1, 2, 3, 5, 1000, 1000000000000]))]
            return self.random.choice(literals + self.names_of(("int",)))
        word = self.random.choice(["add", "sub", "mul", "less", "most", "same", "same", "and", "or", "not", "call"])
        if word == "call":
            return ("call", self.receiver(("A", "B"), depth - 1), "f", (self.number(depth - 1),))
        if word == "not":
            return ("not", self.number(depth - 1))
        if word == "same" and self.chance(60):
            return ("same", self.expression("C", depth - 1), self.expression("A", depth - 1))
        return (word, self.number(depth - 1), self.number(depth - 1))

    def made(self, depth):
        maker = self.random.choice(list(MAKERS))
        return ("new", maker, tuple([self.expression(kind, depth - 1) for kind in MAKERS[maker][0]]))

    def receiver(self, kinds, depth):
        """An expression that is no nil, at least not in the text."""
        found = self.names_of(kinds) * 3 + [("self",)] * self.inside
        return self.random.choice(found) if found and self.chance(80) else self.made(max(depth, 1))

    def object_call(self, kind, depth):
        if kind == "A" or (kind == "C" and self.chance(50)):
            arguments = (self.expression("A", depth - 1), self.expression("B", depth - 1))
            return ("call", self.receiver(("A",), depth - 1), "g", arguments)
        return ("call", self.receiver(("B",), depth - 1), "h", ())

    def call(self):
        return self.random.choice([
            lambda: (self.receiver(("A", "B"), 2), "f", (self.number(2),)),
            lambda: (self.receiver(("A",), 2), "g", (self.expression("A", 2), self.expression("B", 2))),
            lambda: (self.receiver(("B",), 2), "h", ()),
        ])()
