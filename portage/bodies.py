"""The kinds of the expressions and statements in one block of code."""

from portage.blocks import blocks_in
from portage.errors import BadKind
from portage.fitting import EMPTY, INT


class Body:
    """The block of an operation or the start block: its place, the kind of `self` in it, and of what it returns."""

    def __init__(self, fitting, place, me, result):
        self.fitting = fitting
        self.place = place
        self.own_kind = me
        self.result = result

    def must(self, holds):
        if not holds:
            raise BadKind(self.place)

    def check(self, block, known):
        """Checks the statements of a block; `known` is a dict from the names in front of it to their kinds."""
        names = dict(known)
        for statement in block:
            self.check_statement(statement, names)
            if statement[0] == "let":
                names[statement[1]] = statement[2]

    def check_statement(self, statement, known):
        word = statement[0]
        if word == "let":
            self.check_fit(statement[3], statement[2], known)
        elif word == "set":
            self.must(statement[1] in known)
            self.check_fit(statement[2], known[statement[1]], known)
        elif word == "return":
            self.check_fit(statement[1], self.result, known)
        elif word == "if" or word == "while":
            self.check_fit(statement[1], INT, known)
            for inner in blocks_in(statement):
                self.check(inner, known)
        elif word == "move":
            self.must(self.kind_of(statement[1], known) != INT)
            self.check_fit(statement[2], INT, known)
        elif word == "fork":
            self.kind_of_call(statement, known)
        else:
            self.kind_of(statement[1], known)

    def check_fit(self, expression, goal, known):
        self.must(self.fitting.is_fit(self.kind_of(expression, known), goal))

    def kind_of(self, expression, known):
        """Returns the kind of an expression at a place where these names are known."""
        word = expression[0]
        if word == "int":
            return INT
        if word == "nil":
            return EMPTY
        if word == "self":
            return self.own_kind
        if word == "name":
            self.must(expression[1] in known)
            return known[expression[1]]
        if word == "call":
            return self.kind_of_call(expression, known)
        if word == "new":
            self.must(self.fitting.is_made(expression[1], self.kinds_of(expression[2], known)))
            return expression[1]
        kinds = self.kinds_of(expression[1:], known)
        both_objects = word == "same" and INT not in kinds
        self.must(both_objects or kinds.count(INT) == len(kinds))
        return INT

    def kinds_of(self, expressions, known):
        return [self.kind_of(expression, known) for expression in expressions]

    def kind_of_call(self, call, known):
        """Returns the kind of the result of a call, or of the call in a `fork`."""
        receiver = self.kind_of(call[1], known)
        result = self.fitting.result_of(receiver, call[2], self.kinds_of(call[3], known))
        self.must(result is not None)
        return result
