"""Reading the texts of programs and expressions."""

from portage.phrases import Phrases
from portage.tokens import Tokens
from portage.trees import MAX_PARTS, check_size, outer_statements


def read_program(text):
    """Returns the program; raises BadForm, then TooLarge."""
    program = ProgramReader(Tokens(text)).program()
    check_size(outer_statements(program))
    return program


def read_expression(text):
    """Returns the expression; raises BadForm, then TooLarge."""
    tokens = Tokens(text)
    found = Phrases(tokens).expression()
    tokens.take("end")
    check_size([found])
    return found


class ProgramReader:
    """Reads a program from tokens."""

    def __init__(self, tokens):
        self.tokens = tokens
        self.phrases = Phrases(tokens)

    def program(self):
        interfaces = []
        while self.tokens.token() == "interface" and len(interfaces) < MAX_PARTS:
            interfaces.append(self.interface())
        makers = []
        while self.tokens.token() == "maker" and len(makers) < MAX_PARTS:
            makers.append(self.maker())
        self.tokens.take("start")
        start = self.phrases.block()
        self.tokens.take("end")
        return tuple(interfaces), tuple(makers), start

    def interface(self):
        self.tokens.take("interface")
        name = self.tokens.take("name")
        self.tokens.enter("{")
        operations = []
        while self.tokens.token() == "name" and len(operations) < MAX_PARTS:
            operations.append(self.promise())
        self.tokens.close("}")
        return name, tuple(operations)

    def promise(self):
        """Reads an operation of an interface."""
        name = self.tokens.take("name")
        kinds = []
        self.tokens.enter("(")
        while self.tokens.goes_on(len(kinds)):
            kinds.append(self.phrases.kind())
        self.tokens.close(")")
        result = self.result_kind()
        self.tokens.take(";")
        return name, tuple(kinds), result

    def result_kind(self):
        """Reads the colon and the kind of an operation's result."""
        self.tokens.take(":")
        return self.phrases.kind()

    def maker(self):
        self.tokens.take("maker")
        name = self.tokens.take("name")
        params = []
        self.tokens.enter("(")
        while self.tokens.goes_on(len(params)):
            params.append((self.attached(),) + self.phrases.named_kind())
        self.tokens.close(")")
        self.tokens.enter("{")
        fields = []
        while self.tokens.token() in ("attached", "field") and len(fields) < MAX_PARTS:
            fields.append(self.field())
        operations = []
        while self.tokens.token() == "op" and len(operations) < MAX_PARTS:
            operations.append(self.operation())
        self.tokens.close("}")
        return name, tuple(params), tuple(fields), tuple(operations)

    def attached(self):
        """Takes the word `attached`, if it stands here, and says whether it does."""
        if self.tokens.token() != "attached":
            return False
        self.tokens.take("attached")
        return True

    def field(self):
        attached = self.attached()
        self.tokens.take("field")
        name, kind = self.phrases.named_kind()
        first = 0
        if kind == "int" and self.tokens.token() == "=":
            first = self.first_value()
        self.tokens.take(";")
        return attached, name, kind, first

    def first_value(self):
        """Reads the `=` and the number of a field."""
        self.tokens.take("=")
        if self.tokens.token() == "-":
            self.tokens.take("-")
            return -int(self.tokens.take("digits"))
        return int(self.tokens.take("digits"))

    def operation(self):
        self.tokens.take("op")
        name = self.tokens.take("name")
        params = []
        self.tokens.enter("(")
        while self.tokens.goes_on(len(params)):
            params.append(self.phrases.named_kind())
        self.tokens.close(")")
        result = self.result_kind()
        return name, tuple(params), result, self.phrases.block()
