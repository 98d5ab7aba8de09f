"""The names of processes and objects as texts."""

from portage.digits import MAX_SHORT, number_in
from portage.errors import NotAllowed


def process_text(process):
    """Returns the text of the name of a process."""
    return "".join(["p"] + [f".{number}" for number in process])


def object_text(name):
    """Returns the text of the name of an object."""
    return f"{process_text(name[0])}#{name[1]}"


def read_process(text):
    """Returns the name of a process, in which no number is too large."""
    process = process_in(text)
    _check_numbers(process)
    return process


def read_object(text):
    """Returns the name of an object, in which no number is too large."""
    name = object_in(text)
    _check_numbers(name[0] + name[1:])
    return name


def process_in(text):
    """Returns the name of a process, whatever its numbers are."""
    parts = text.split(".")
    if parts[0] != "p":
        raise NotAllowed("this is not the name of a process")
    return tuple([number_in(part) for part in parts[1:]])


def object_in(text):
    """Returns the name of an object, whatever its numbers are."""
    process, _, number = text.partition("#")
    return process_in(process), number_in(number)


def _check_numbers(numbers):
    if max(numbers, default=0) > MAX_SHORT:
        raise NotAllowed("a number in the name is too large")
