"""The texts of numbers, values, and names of processes and objects.

What reads a text raises NotAllowed if it is of another form. Whether a number is too large is seen by those who ask.
"""

from portage.errors import NotAllowed
from portage.values import NIL, is_reference

# As many as MAX_NUMBER has: longer rows of digits are not made into numbers at all.
MAX_DIGITS = 13


def process_text(process):
    """Returns the text of the name of a process."""
    return "".join(["p"] + [f".{number}" for number in process])


def object_text(name):
    """Returns the text of the name of an object."""
    return f"{process_text(name[0])}#{name[1]}"


def value_text(value):
    """Returns the text of a value."""
    if value == NIL:
        return "nil"
    if is_reference(value):
        return object_text(value[1])
    return str(value)


def number_in(text):
    """Returns the number of a text of digits without leading zeros."""
    if not (text.isascii() and text.isdigit()) or len(text) > MAX_DIGITS or (text[0] == "0" and text != "0"):
        raise NotAllowed("this is not a number")
    return int(text)


def process_in(text):
    """Returns the name of a process."""
    parts = text.split(".")
    if parts[0] != "p":
        raise NotAllowed("this is not the name of a process")
    return tuple([number_in(part) for part in parts[1:]])


def object_in(text):
    """Returns the name of an object."""
    process, _, number = text.partition("#")
    return process_in(process), number_in(number)


def value_in(text):
    """Returns the value of a text."""
    if text == "nil":
        return NIL
    if text.startswith("p"):
        return "ref", object_in(text)
    if text.startswith("-") and text != "-0":
        return -number_in(text[1:])
    return number_in(text)
