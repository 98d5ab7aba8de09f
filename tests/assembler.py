"""A compiler of blocks for the tests: it writes labels into the code and puts the indexes in at the end."""


class Assembler:
    def __init__(self, names):
        self.names = names
        self.rows = []
        self.labels = 0

    def label(self):
        self.labels += 1
        return ("label", self.labels)

    def emit(self, *row):
        self.rows.append(row)

    def here(self, label):
        self.rows.append(label)

    def code(self):
        places = {}
        rows = []
        for row in self.rows:
            if row[0] == "label":
                places[row] = len(rows)
            else:
                rows.append(row)
        return tuple([(row[0], places[row[1]]) if row[0] in ("jump", "unless") else row for row in rows])

    def expression(self, tree):
        word = tree[0]
        if word == "int":
            self.emit("push", tree[1])
        elif word in ("nil", "self"):
            self.emit(word)
        elif word == "name":
            self.emit(*self.names[tree[1]])
        elif word in ("and", "or"):
            self.choice(tree)
        elif word == "call":
            self.call("call", tree)
        elif word == "new":
            for part in tree[2]:
                self.expression(part)
            self.emit("new", tree[1], len(tree[2]))
        else:
            for part in tree[1:]:
                self.expression(part)
            self.emit(word)

    def choice(self, tree):
        early, end = self.label(), self.label()
        for part in tree[1:]:
            self.expression(part)
            if tree[0] == "or":
                self.emit("not")
            self.emit("unless", early)
        self.emit("push", 1 if tree[0] == "and" else 0)
        self.emit("jump", end)
        self.here(early)
        self.emit("push", 0 if tree[0] == "and" else 1)
        self.here(end)

    def call(self, word, tree):
        for part in (tree[1],) + tree[3]:
            self.expression(part)
        self.emit(word, tree[2], len(tree[3]))

    def block(self, block):
        for statement in block:
            self.statement(statement)

    def statement(self, tree):
        word = tree[0]
        if word in ("let", "set"):
            self.expression(tree[-1])
            where, k = self.names[tree[1]]
            self.emit("set" + where, k)
        elif word == "if":
            self.branch(tree)
        elif word == "while":
            top, end = self.label(), self.label()
            self.here(top)
            self.expression(tree[1])
            self.emit("unless", end)
            self.block(tree[2])
            self.emit("jump", top)
            self.here(end)
        elif word == "fork":
            self.call("fork", tree)
        else:
            for part in tree[1:]:
                self.expression(part)
            self.emit("drop" if word == "do" else word)

    def branch(self, tree):
        other, end = self.label(), self.label()
        self.expression(tree[1])
        self.emit("unless", other)
        self.block(tree[2])
        if tree[3]:
            self.emit("jump", end)
        self.here(other)
        self.block(tree[3])
        self.here(end)
