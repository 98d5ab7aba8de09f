"""Running programs without forks by a walk over the tree: no code, no frames, no stack."""

MAX_NUMBER = 1000000000000
MAX_CALLS = 60


class Fault(Exception):
    def __init__(self, word):
        super().__init__(word)
        self.word = word


class Endless(Exception):
    """The walk has become too long or too deep."""


class Returned(Exception):
    def __init__(self, value):
        super().__init__()
        self.value = value


class Walker:
    def __init__(self, program, limit):
        self.makers = {maker[0]: maker for maker in program[1]}
        self.start = program[2]
        self.limit = limit
        self.calls = 0
        self.objects = {((), 0): ("start", {})}
        self.prints = []

    def run(self):
        """Returns the status at the end."""
        try:
            return ("done", self.called(((), 0), self.start, {}))
        except Fault as fault:
            return ("fault", fault.word)

    def rows(self):
        """The objects as a state has them."""
        return tuple([(name, maker, tuple(fields.values())) for name, (maker, fields) in sorted(self.objects.items())])

    def called(self, me, block, env):
        self.calls += 1
        if self.calls > MAX_CALLS:
            raise Endless()
        try:
            self.block(me, block, env)
        except Returned as returned:
            self.calls -= 1
            return returned.value
        raise AssertionError("a block has not returned")

    def block(self, me, block, env):
        for statement in block:
            self.statement(me, statement, env)

    def statement(self, me, statement, env):
        word = statement[0]
        if word == "while":
            while self.value(me, statement[1], env) != 0:
                self.block(me, statement[2], env)
            return
        value = self.value(me, statement[2 if word == "set" else 3 if word == "let" else 1], env)
        if word == "let" or (word == "set" and statement[1] in env):
            env[statement[1]] = value
        elif word == "set":
            self.objects[me][1][statement[1]] = value
        elif word == "if":
            self.block(me, statement[2] if value != 0 else statement[3], env)
        elif word == "return":
            raise Returned(value)
        elif word == "print":
            self.prints.append(((), value))
        elif word == "move":
            self.value(me, statement[2], env)
            if value == ("nil",):
                raise Fault("nil")

    def value(self, me, tree, env):
        self.limit -= 1
        if self.limit < 0:
            raise Endless()
        word = tree[0]
        if word == "int":
            return tree[1]
        if word == "nil":
            return tree
        if word == "self":
            return ("ref", me)
        if word == "name":
            return env[tree[1]] if tree[1] in env else self.objects[me][1][tree[1]]
        if word == "and":
            return int(self.value(me, tree[1], env) != 0 and self.value(me, tree[2], env) != 0)
        if word == "or":
            return int(self.value(me, tree[1], env) != 0 or self.value(me, tree[2], env) != 0)
        if word == "not":
            return int(self.value(me, tree[1], env) == 0)
        if word == "call":
            return self.call(self.value(me, tree[1], env), tree[2], [self.value(me, part, env) for part in tree[3]])
        if word == "new":
            return self.make(tree[1], [self.value(me, part, env) for part in tree[2]])
        return self.number(word, self.value(me, tree[1], env), self.value(me, tree[2], env))

    def number(self, word, left, right):
        if word in ("less", "most", "same"):
            return int(left < right if word == "less" else left <= right if word == "most" else left == right)
        result = left + right if word == "add" else left - right if word == "sub" else left * right
        if not -MAX_NUMBER <= result <= MAX_NUMBER:
            raise Fault("large")
        return result

    def make(self, maker, arguments):
        _, params, fields, _ = self.makers[maker]
        held = dict(zip([param[1] for param in params], arguments))
        for _, field, kind, first in fields:
            held[field] = first if kind == "int" else ("nil",)
        name = ((), len(self.objects))
        self.objects[name] = (maker, held)
        return ("ref", name)

    def call(self, receiver, operation, arguments):
        if receiver == ("nil",):
            raise Fault("nil")
        for name, params, _, block in self.makers[self.objects[receiver[1]][0]][3]:
            if name == operation:
                return self.called(receiver[1], block, dict(zip([param[0] for param in params], arguments)))
        raise AssertionError("an operation is missing")
