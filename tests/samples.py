"""Programs for the tests: one with parts of every kind, and random ones that are the same in every run."""

import random

BOX = ("Box", (("get", (), "int"), ("put", ("int", "Box"), "Box")))
EMPTY = ("Empty", ())

EVERY_EXPRESSION = (
    ("int", 0),
    ("int", 1000000000000),
    ("nil",),
    ("self",),
    ("name", "x"),
    ("add", ("int", 1), ("int", 2)),
    ("sub", ("int", 1), ("int", 2)),
    ("mul", ("int", 1), ("int", 2)),
    ("less", ("int", 1), ("int", 2)),
    ("most", ("int", 1), ("int", 2)),
    ("same", ("int", 1), ("int", 2)),
    ("and", ("int", 1), ("int", 2)),
    ("or", ("int", 1), ("int", 2)),
    ("not", ("int", 1)),
    ("call", ("self",), "get", (("int", 1), ("nil",))),
    ("new", "Cell", (("int", 1),)),
)

EVERY_STATEMENT = (
    ("let", "x", "int", ("int", 1)),
    ("let", "y", "Box", ("nil",)),
    ("set", "x", ("int", 2)),
    ("if", ("int", 1), (("do", ("int", 1)),), ()),
    ("if", ("int", 1), (), (("do", ("int", 2)),)),
    ("while", ("int", 0), (("print", ("int", 1)),)),
    ("print", ("name", "x")),
    ("move", ("self",), ("int", 1)),
    ("fork", ("self",), "get", (("int", 1),)),
) + tuple([("do", expression) for expression in EVERY_EXPRESSION]) + (
    ("return", ("int", 1)),
)

CELL = (
    "Cell",
    ((True, "next", "Box"), (False, "n", "int")),
    ((True, "other", "Box", 0), (False, "many", "int", -1000000000000), (False, "more", "int", 1000000000000)),
    (
        ("get", (), "int", EVERY_STATEMENT),
        ("put", (("k", "int"), ("b", "Box")), "Box", (("return", ("self",)),)),
    ),
)

PROGRAM = ((BOX, EMPTY), (CELL, ("None2", (), (), ())), (("print", ("int", 1)), ("return", ("int", 0))))


class Choices:
    """Random programs, of the right form but with any names."""

    def __init__(self, seed):
        self.random = random.Random(seed)

    def name(self):
        return self.random.choice(["a", "b", "x1", "Box", "Zed", "abcdefghijkl", "iff", "news"])

    def kind(self):
        return self.random.choice(["int", self.name()])

    def several(self, make, most):
        return tuple([make() for _ in range(self.random.randrange(most + 1))])

    def expression(self, depth):
        simple = ("int", "nil", "self", "name")
        pairs = ("add", "sub", "mul", "less", "most", "same", "and", "or")
        word = self.random.choice(simple if depth <= 1 else simple + pairs + pairs + ("not", "not", "call", "call", "new"))
        if word == "int":
            return ("int", self.random.choice([0, 1, 7, 10, 999999999999, 1000000000000]))
        if word == "name":
            return ("name", self.name())
        if word in ("nil", "self"):
            return (word,)
        if word == "not":
            return ("not", self.expression(depth - 1))
        if word == "new":
            return ("new", self.name(), self.arguments(depth - 1))
        if word == "call":
            return ("call", self.expression(depth - 1), self.name(), self.arguments(depth - 1))
        return (word, self.expression(depth - 1), self.expression(depth - 1))

    def arguments(self, depth):
        return self.several(lambda: self.expression(depth), 2)

    def block(self, depth):
        return self.several(lambda: self.statement(depth), 4)

    def statement(self, depth):
        simple = ("let", "set", "return", "print", "move", "fork", "do")
        word = self.random.choice(simple if depth <= 2 else simple + ("if", "if", "while"))
        first = self.expression(depth - 1)
        if word == "let":
            return ("let", self.name(), self.kind(), first)
        if word == "set":
            return ("set", self.name(), first)
        if word == "if":
            return ("if", first, self.block(depth - 1), self.block(depth - 1))
        if word == "while":
            return ("while", first, self.block(depth - 1))
        if word == "move":
            return ("move", first, self.expression(depth - 1))
        if word == "fork":
            return ("fork", first, self.name(), self.arguments(depth - 1))
        return (word, first)

    def interface(self):
        return (self.name(), self.several(lambda: (self.name(), self.several(self.kind, 3), self.kind()), 3))

    def flag(self):
        return self.random.choice([True, False])

    def field(self):
        kind = self.kind()
        first = self.random.choice([0, 1, -1, 1000000000000, -1000000000000]) if kind == "int" else 0
        return (self.flag(), self.name(), kind, first)

    def operation(self, depth):
        return (self.name(), self.several(lambda: (self.name(), self.kind()), 3), self.kind(), self.block(depth))

    def maker(self, depth):
        params = self.several(lambda: (self.flag(), self.name(), self.kind()), 3)
        return (self.name(), params, self.several(self.field, 3), self.several(lambda: self.operation(depth), 2))

    def program(self, depth):
        makers = self.several(lambda: self.maker(depth), 2)
        return (self.several(self.interface, 2), makers, self.block(depth))
