"""Which kinds fit which.

Besides `int` and the names of interfaces and makers there are two kinds of expressions. Both are written as words, so
that no interface and no maker has such a name.
"""

from portage.kinds import operations_of, relation

INT = "int"
EMPTY = "nil"
BARE = "self"


class Fitting:
    """What the interfaces and makers of a program say about kinds."""

    def __init__(self, program):
        interfaces, makers, _ = program
        self.interfaces = [interface[0] for interface in interfaces]
        self.operations = {part[0]: operations_of(part) for part in interfaces + makers}
        self.params = {maker[0]: [param[2] for param in maker[1]] for maker in makers}
        self.conforming = relation(program)

    def is_fit(self, kind, goal):
        """Says whether an expression of this kind fits the goal; nothing fits a goal that is not known."""
        if goal not in self.interfaces:
            return kind == INT and goal == INT
        if kind == BARE:
            return len(self.operations[goal]) == 0
        return kind == EMPTY or (kind, goal) in self.conforming

    def are_fit(self, kinds, goals):
        """Says whether expressions of these kinds are as many as the goals and fit them, each its own."""
        if len(kinds) != len(goals):
            return False
        return all([self.is_fit(kind, goal) for kind, goal in zip(kinds, goals)])

    def result_of(self, kind, operation, kinds):
        """Returns the kind of a call of the operation with arguments of these kinds, None if it cannot be called."""
        for name, goals, result in self.operations.get(kind, ()):
            # The makers further behind are not checked yet, so a result may be of no kind at all.
            is_kind = result == INT or result in self.operations
            if name == operation and self.are_fit(kinds, goals) and is_kind:
                return result
        return None

    def is_made(self, maker, kinds):
        """Says whether the maker is there and takes arguments of these kinds."""
        return maker in self.params and self.are_fit(kinds, self.params[maker])
