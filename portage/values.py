"""Values, and the names of processes and objects: their forms."""

from portage.trees import MAX_NUMBER, is_integer

NIL = ("nil",)


def is_row(value, many):
    """Says whether a value is a tuple of so many elements."""
    return isinstance(value, tuple) and len(value) == many


def is_natural(value):
    """Says whether a value is an integer from 0 to MAX_NUMBER."""
    return is_integer(value) and 0 <= value <= MAX_NUMBER


def is_process_name(value):
    """Says whether a value is the name of a process."""
    return isinstance(value, tuple) and all([is_natural(part) for part in value])


def is_object_name(value):
    """Says whether a value is the name of an object."""
    return is_row(value, 2) and is_process_name(value[0]) and is_natural(value[1])


def is_value(value):
    """Says whether something is a value of the machine."""
    if is_integer(value):
        return -MAX_NUMBER <= value <= MAX_NUMBER
    return value == NIL or (is_row(value, 2) and value[0] == "ref" and is_object_name(value[1]))


def is_reference(value):
    """Says whether a value of the machine refers to an object."""
    return not is_integer(value) and value[0] == "ref"
