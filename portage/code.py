"""The instructions of compiled code, and how many values are on the stack before each of them."""

from portage.errors import NotAllowed
from portage.trees import MAX_NUMBER, is_integer, is_name

PLAIN = ("nil", "self", "add", "sub", "mul", "less", "most", "same", "not", "drop", "move", "print", "return")

# Need and effect of the instructions for which both are always the same.
STACK = {
    "push": (0, 1),
    "nil": (0, 1),
    "self": (0, 1),
    "local": (0, 1),
    "field": (0, 1),
    "setlocal": (1, -1),
    "setfield": (1, -1),
    "drop": (1, -1),
    "print": (1, -1),
    "add": (2, -1),
    "sub": (2, -1),
    "mul": (2, -1),
    "less": (2, -1),
    "most": (2, -1),
    "same": (2, -1),
    "not": (1, 0),
    "jump": (0, 0),
    "unless": (1, -1),
    "move": (2, -2),
    "return": (1, -1),
}


def is_instruction(value):
    """Says whether a tuple is an instruction."""
    word = value[0]
    if word in PLAIN:
        return len(value) == 1
    if word in ("new", "call", "fork"):
        return len(value) == 3 and isinstance(value[1], str) and is_name(value[1]) and _is_count(value[2])
    if word not in STACK or len(value) != 2 or not _is_count(value[1]):
        return False
    return word != "push" or value[1] <= MAX_NUMBER


def _is_count(value):
    return is_integer(value) and value >= 0


def need(instruction):
    """Returns how many values must be on the stack before an instruction."""
    word = instruction[0]
    if word == "new":
        return instruction[2]
    if word == "call" or word == "fork":
        return instruction[2] + 1
    return STACK[word][0]


def effect(instruction):
    """Returns by how much an instruction makes the stack longer."""
    word = instruction[0]
    if word == "new":
        return 1 - instruction[2]
    if word == "call":
        return -instruction[2]
    if word == "fork":
        return -instruction[2] - 1
    return STACK[word][1]


def heights(code, locals_many, fields_many):
    """Returns the tuple of the heights before the instructions, None for those that no way reaches."""
    found = [None] * len(code)
    pending = [(0, 0)]
    while len(pending) > 0:
        at, height = pending.pop()
        if at >= len(code):
            raise NotAllowed("a way leads behind the last instruction")
        if found[at] is None:
            found[at] = height
            _check_reached(code[at], height, locals_many, fields_many)
            behind = height + effect(code[at])
            pending.extend([(index, behind) for index in _ways_from(code[at], at)])
        elif found[at] != height:
            raise NotAllowed("two ways come to an instruction with different heights")
    return tuple(found)


def _check_reached(instruction, height, locals_many, fields_many):
    """Checks an instruction that is reached with this height."""
    word = instruction[0]
    if need(instruction) > height:
        raise NotAllowed("an instruction needs more values than there are")
    if word == "return" and height != 1:
        raise NotAllowed("a return leaves values behind")
    if word in ("local", "setlocal") and instruction[1] >= locals_many:
        raise NotAllowed("there is no such local")
    if word in ("field", "setfield") and instruction[1] >= fields_many:
        raise NotAllowed("there is no such field")


def _ways_from(instruction, at):
    """Returns the list of the indexes to which one goes on from an instruction."""
    word = instruction[0]
    if word == "return":
        return []
    if word == "jump":
        return [instruction[1]]
    if word == "unless":
        return [at + 1, instruction[1]]
    return [at + 1]
