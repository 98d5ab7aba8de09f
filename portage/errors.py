"""The errors that the program raises."""


class PortError(ValueError):
    """The base class of all errors of this package."""


class NotAllowed(PortError):
    """What was handed in has not the form that is asked."""


class TooLarge(PortError):
    """A program has too many or too deep statements and expressions."""


class Missing(PortError):
    """What was named is not there."""


class BadForm(PortError):
    """A text is not of its form; `line` is the number of the bad line, from 1 on."""

    def __init__(self, line):
        super().__init__(f"bad form in line {line}")
        self.line = line


class BadKind(PortError):
    """A program is not good; `place` names the first place at which something does not hold."""

    def __init__(self, place):
        super().__init__(f"something does not hold at {place}")
        self.place = place
