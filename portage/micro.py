"""One instruction, as far as it concerns its own frame and the fields of the object to which this belongs."""

from portage.code import need
from portage.compiler import maker_of, row_of
from portage.trees import MAX_NUMBER, is_integer
from portage.values import NIL, is_reference

# What pops integers alone.
OF_NUMBERS = ("add", "sub", "mul", "less", "most", "not", "unless")


def first_frame(image, maker, operation, arguments):
    """Returns the frame with which an operation of a maker begins."""
    many = row_of(image, maker, operation)[2]
    return operation, 0, arguments + (0,) * (many - len(arguments)), ()


def first_fields(image, maker, arguments):
    """Returns the fields of a new object of a maker."""
    return arguments + maker_of(image, maker)[2]


def pushed(frame, value):
    """Returns the frame with the value on top of its stack."""
    operation, at, held, stack = frame
    return operation, at, held, stack + (value,)


def micro(image, maker, name, fields, frame):
    """Carries out the next instruction of a frame; returns what came of it, a tuple that begins with its word."""
    instruction = row_of(image, maker, frame[0])[3][frame[1]]
    word = instruction[0]
    popped, behind = _popped(frame, need(instruction))
    fault = _fault_of(word, popped)
    if fault != "":
        return "fault", fault
    if word == "return":
        return "return", popped[0]
    if word == "print":
        return "print", popped[0], behind
    if word == "new":
        return "new", instruction[1], popped, behind
    if word == "call" or word == "fork":
        return word, popped[0][1], instruction[1], popped[1:], behind
    if word == "move":
        return "move", popped[0][1], popped[1], behind
    if word == "setfield":
        return "next", behind, _replaced(fields, instruction[1], popped[0])
    return "next", _frame_behind(instruction, popped, behind, name, fields), fields


def _popped(frame, many):
    """Returns the topmost values of the stack, and the frame with the index behind and without these values."""
    operation, at, held, stack = frame
    rest = len(stack) - many
    return stack[rest:], (operation, at + 1, held, stack[:rest])


def _fault_of(word, popped):
    """Returns the word of the fault that an instruction has with the popped values, or the empty text."""
    if word in OF_NUMBERS and not all([is_integer(value) for value in popped]):
        return "number"
    if word == "move" and not is_integer(popped[1]):
        return "number"
    if word in ("call", "fork", "move") and not is_reference(popped[0]):
        return "nil"
    if word in ("add", "sub", "mul") and abs(_number_of(word, popped)) > MAX_NUMBER:
        return "large"
    return ""


def _number_of(word, popped):
    """Returns what add, sub, mul, less or most makes of two numbers, or same of two values."""
    left, right = popped
    if word == "add":
        return left + right
    if word == "sub":
        return left - right
    if word == "mul":
        return left * right
    if word == "less":
        return int(left < right)
    if word == "most":
        return int(left <= right)
    return int(left == right)


def _frame_behind(instruction, popped, behind, name, fields):
    """Returns the frame behind an instruction that concerns nothing but its frame."""
    word = instruction[0]
    operation, at, held, stack = behind
    if word == "drop" or (word == "unless" and popped[0] != 0):
        return behind
    if word == "jump" or word == "unless":
        return operation, instruction[1], held, stack
    if word == "setlocal":
        return operation, at, _replaced(held, instruction[1], popped[0]), stack
    if word == "local":
        return pushed(behind, held[instruction[1]])
    if word == "field":
        return pushed(behind, fields[instruction[1]])
    if word == "push":
        return pushed(behind, instruction[1])
    if word == "nil":
        return pushed(behind, NIL)
    if word == "self":
        return pushed(behind, ("ref", name))
    if word == "not":
        return pushed(behind, int(popped[0] == 0))
    return pushed(behind, _number_of(word, popped))


def _replaced(values, k, value):
    """Returns a tuple of values with another one at an index."""
    return values[:k] + (value,) + values[k + 1:]
