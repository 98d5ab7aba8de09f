"""Compiling programs into images.

Each part is compiled for the index at which its code will stand, so that its jumps are right from the beginning.
"""

from portage.blocks import let_names
from portage.errors import Missing

ROW_WORDS = ("add", "sub", "mul", "less", "most", "same")


def compile_program(program):
    """Returns the image of a program that is good."""
    makers = [_compiled_maker(maker) for maker in program[1]]
    return tuple(makers), _compiled_row("start", [], program[2], {})


def _compiled_maker(maker):
    name, params, fields, operations = maker
    held = params + fields
    names = {part[1]: ("field", k) for k, part in enumerate(held)}
    firsts = [first if kind == "int" else ("nil",) for _, _, kind, first in fields]
    attached = [k for k, part in enumerate(held) if part[0]]
    rows = [_compiled_row(row, [param[0] for param in inner], block, names) for row, inner, _, block in operations]
    return name, len(params), tuple(firsts), tuple(attached), tuple(rows)


def _compiled_row(name, params, block, fields):
    """Returns the row of an operation; `fields` is a dict from the names of the maker to where they are found."""
    inner = local_names(params, block)
    names = dict(fields)
    for k, local in enumerate(inner):
        names[local] = ("local", k)
    return name, len(params), len(inner), compiled_block(names, block)


def local_names(params, block):
    """Returns the list of the names of the locals, the params first."""
    return params + let_names(block)


def compiled_block(names, block):
    """Returns the code of a block; `names` is a dict from the names in it to ("local", k) or ("field", k)."""
    return _block_code(names, block, 0)


def row_of(image, maker, operation):
    """Returns the row of an operation."""
    for row in maker_of(image, maker)[4]:
        if row[0] == operation:
            return row
    raise Missing(f"{maker} has no operation {operation}")


def maker_of(image, name):
    """Returns the tuple of a maker."""
    makers, start = image
    if name == "start":
        return "start", 0, (), (), (start,)
    for maker in makers:
        if maker[0] == name:
            return maker
    raise Missing(f"there is no maker {name}")


def _block_code(names, block, at):
    """Returns the code of a block that begins at an index."""
    code = ()
    for statement in block:
        code = code + _statement_code(names, statement, at + len(code))
    return code


def _statement_code(names, statement, at):
    word = statement[0]
    if word == "if":
        return _if_code(names, statement, at)
    if word == "while":
        return _while_code(names, statement, at)
    if word == "fork":
        return _call_code(names, statement, at)
    if word == "let" or word == "set":
        where, k = names[statement[1]]
        return _expression_code(names, statement[-1], at) + (("set" + where, k),)
    instruction = "drop" if word == "do" else word
    return _row_code(names, statement[1:], at) + ((instruction,),)


def _if_code(names, statement, at):
    _, condition, block, other = statement
    asked = _expression_code(names, condition, at)
    first = _block_code(names, block, at + len(asked) + 1)
    behind = at + len(asked) + 1 + len(first)
    if len(other) == 0:
        return asked + (("unless", behind),) + first
    second = _block_code(names, other, behind + 1)
    return asked + (("unless", behind + 1),) + first + (("jump", behind + 1 + len(second)),) + second


def _while_code(names, statement, at):
    asked = _expression_code(names, statement[1], at)
    block = _block_code(names, statement[2], at + len(asked) + 1)
    behind = at + len(asked) + 1 + len(block) + 1
    return asked + (("unless", behind),) + block + (("jump", at),)


def _row_code(names, expressions, at):
    """Returns the codes of several expressions, one behind the other."""
    code = ()
    for expression in expressions:
        code = code + _expression_code(names, expression, at + len(code))
    return code


def _call_code(names, call, at):
    """Returns the code of a call or of a `fork`."""
    word, receiver, operation, arguments = call
    return _row_code(names, (receiver,) + arguments, at) + ((word, operation, len(arguments)),)


def _expression_code(names, expression, at):
    word = expression[0]
    if word == "int":
        return (("push", expression[1]),)
    if word == "name":
        return (names[expression[1]],)
    if word == "and" or word == "or":
        return _choice_code(names, expression, at)
    if word == "call":
        return _call_code(names, expression, at)
    if word == "new":
        return _row_code(names, expression[2], at) + (("new", expression[1], len(expression[2])),)
    return _row_code(names, expression[1:], at) + ((word,),)


def _choice_code(names, expression, at):
    """Returns the code of `and` or `or`: the first part that decides leads to the last instruction."""
    word, left, right = expression
    turned = (("not",),) if word == "or" else ()
    first = _expression_code(names, left, at) + turned
    second = _expression_code(names, right, at + len(first) + 1) + turned
    decided = at + len(first) + 1 + len(second) + 3
    plain, early = (0, 1) if word == "or" else (1, 0)
    ends = (("push", plain), ("jump", decided + 1), ("push", early))
    return first + (("unless", decided),) + second + (("unless", decided),) + ends
