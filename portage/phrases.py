"""Reading expressions and blocks from tokens.

Operators wait in a list while their right sides are read, so only brackets lead to deeper calls.
"""

from portage.operators import COMPARISON_LEVEL, NOT_LEVEL, row_of_sign


class Phrases:
    """Reads expressions and blocks that begin at the place of its tokens."""

    def __init__(self, tokens):
        self.tokens = tokens

    def expression(self):
        """Reads an expression: expr of the grammar."""
        waiting = []
        while True:
            while self.tokens.token() == "not" and (len(waiting) == 0 or waiting[-1][0] <= NOT_LEVEL):
                self.tokens.enter("not")
                waiting.append((NOT_LEVEL, ("not",)))
            found = self.atom()
            while self.tokens.token() == ".":
                found = ("call", found) + self.called()
            row = self.operator_behind(waiting)
            level = 0 if row is None else row[2]
            while len(waiting) > 0 and waiting[-1][0] >= level:
                front = waiting.pop()[1]
                if front == ("not",):
                    self.tokens.leave()
                found = front + (found,)
            if row is None:
                return found
            self.tokens.take(row[0])
            waiting.append((level, (row[1], found)))

    def operator_behind(self, waiting):
        """Returns the row of the operator at the place, None if the expression ends in front of it."""
        row = row_of_sign(self.tokens.token())
        if row is None or row[2] != COMPARISON_LEVEL:
            return row
        # A comparison behind a comparison needs brackets, so the second sign ends the expression.
        return None if any([entry[0] == COMPARISON_LEVEL for entry in waiting]) else row

    def atom(self):
        token = self.tokens.token()
        if token == "digits":
            return ("int", int(self.tokens.take("digits")))
        if token == "name":
            return ("name", self.tokens.take("name"))
        if token == "nil" or token == "self":
            return (self.tokens.take(token),)
        if token == "new":
            self.tokens.take("new")
            maker = self.tokens.take("name")
            return ("new", maker, self.arguments())
        self.tokens.enter("(")
        found = self.expression()
        self.tokens.close(")")
        return found

    def called(self):
        """Reads the dot, the name and the arguments of a call, and returns the last two."""
        self.tokens.take(".")
        operation = self.tokens.take("name")
        return operation, self.arguments()

    def arguments(self):
        self.tokens.enter("(")
        found = []
        while self.tokens.goes_on(len(found)):
            found.append(self.expression())
        self.tokens.close(")")
        return tuple(found)

    def kind(self):
        if self.tokens.token() == "int":
            return self.tokens.take("int")
        return self.tokens.take("name")

    def named_kind(self):
        """Reads a name, a colon and a kind."""
        name = self.tokens.take("name")
        self.tokens.take(":")
        return name, self.kind()

    def block(self):
        self.tokens.enter("{")
        found = []
        while self.tokens.token() != "}":
            found.append(self.statement())
        self.tokens.close("}")
        return tuple(found)

    def statement(self):
        token = self.tokens.token()
        if token == "if":
            return self.choice()
        if token == "while":
            self.tokens.take("while")
            condition = self.expression()
            return ("while", condition, self.block())
        found = self.simple_statement(token)
        self.tokens.take(";")
        return found

    def choice(self):
        """Reads an `if` with its blocks."""
        self.tokens.take("if")
        condition = self.expression()
        first = self.block()
        second = ()
        if self.tokens.token() == "else":
            self.tokens.take("else")
            second = self.block()
        return ("if", condition, first, second)

    def simple_statement(self, token):
        """Reads a statement without blocks that begins with this token, up to its semicolon."""
        if token == "let":
            return self.declaration()
        if token == "name" and self.tokens.following() == "=":
            name = self.tokens.take("name")
            self.tokens.take("=")
            return ("set", name, self.expression())
        if token == "return" or token == "print":
            self.tokens.take(token)
            return (token, self.expression())
        if token == "move":
            self.tokens.take("move")
            carried = self.expression()
            self.tokens.take("to")
            return ("move", carried, self.expression())
        if token == "fork":
            return self.fork()
        return ("do", self.expression())

    def declaration(self):
        """Reads a `let`."""
        self.tokens.take("let")
        name, kind = self.named_kind()
        self.tokens.take("=")
        return ("let", name, kind, self.expression())

    def fork(self):
        """Reads a `fork`; its last call is the one that is forked, so there must be one outside of all brackets."""
        self.tokens.take("fork")
        found = self.atom()
        call = self.called()
        while self.tokens.token() == ".":
            found = ("call", found) + call
            call = self.called()
        return ("fork", found) + call
