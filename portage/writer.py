"""Writing the plain texts of programs and expressions."""

from portage.operators import COMPARISON_LEVEL, NOT_LEVEL, POST_LEVEL, row_of_word

INDENT = "  "


def expression_text(expression):
    """Returns the plain text of an expression."""
    return _text_from(expression, 0)


def _text_from(expression, least):
    """Returns the text of an expression where none of a level below `least` stands without brackets."""
    row = row_of_word(expression[0])
    level = POST_LEVEL
    if row is not None:
        level = row[2]
    elif expression[0] == "not":
        level = NOT_LEVEL
    text = _bare_text(expression, row)
    return "(" + text + ")" if level < least else text


def _bare_text(expression, row):
    """Returns the text of an expression without brackets around it; `row` is that of its operator, or None."""
    if row is not None:
        left_least = row[2] + 1 if row[2] == COMPARISON_LEVEL else row[2]
        left = _text_from(expression[1], left_least)
        right = _text_from(expression[2], row[2] + 1)
        return f"{left} {row[0]} {right}"
    word = expression[0]
    if word == "not":
        return "not " + _text_from(expression[1], NOT_LEVEL)
    if word == "call":
        return _call_text(expression)
    if word == "new":
        return f"new {expression[1]}{_arguments_text(expression[2])}"
    if word == "int" or word == "name":
        return str(expression[1])
    return word


def _call_text(call):
    """Returns the text of a call, also of that in a `fork`."""
    receiver = _text_from(call[1], POST_LEVEL)
    return f"{receiver}.{call[2]}{_arguments_text(call[3])}"


def _arguments_text(arguments):
    return _in_brackets([expression_text(argument) for argument in arguments])


def _in_brackets(texts):
    return "(" + ", ".join(texts) + ")"


def program_text(program):
    """Returns the plain text of a program."""
    interfaces, makers, start = program
    lines = []
    for interface in interfaces:
        lines.extend(_interface_lines(interface))
    for maker in makers:
        lines.extend(_maker_lines(maker))
    lines.append("start {")
    lines.extend(_block_lines(start, INDENT))
    lines.append("}")
    return "".join([line + "\n" for line in lines])


def _interface_lines(interface):
    lines = [f"interface {interface[0]} " + "{"]
    for name, kinds, result in interface[1]:
        lines.append(f"{INDENT}{name}{_in_brackets(kinds)}: {result};")
    return lines + ["}"]


def _maker_lines(maker):
    name, params, fields, operations = maker
    texts = [f"{_attached_text(param)}{param[1]}: {param[2]}" for param in params]
    lines = [f"maker {name}{_in_brackets(texts)} " + "{"]
    for field in fields:
        first = f" = {field[3]}" if field[3] != 0 else ""
        lines.append(f"{INDENT}{_attached_text(field)}field {field[1]}: {field[2]}{first};")
    for operation in operations:
        lines.extend(_operation_lines(operation))
    return lines + ["}"]


def _attached_text(part):
    return "attached " if part[0] else ""


def _operation_lines(operation):
    name, params, result, block = operation
    texts = [f"{param}: {kind}" for param, kind in params]
    head = f"{INDENT}op {name}{_in_brackets(texts)}: {result} " + "{"
    return [head] + _block_lines(block, INDENT + INDENT) + [INDENT + "}"]


def _block_lines(block, indent):
    """Returns the lines of the statements of a block."""
    lines = []
    for statement in block:
        lines.extend(_statement_lines(statement, indent))
    return lines


def _statement_lines(statement, indent):
    word = statement[0]
    if word != "if" and word != "while":
        return [f"{indent}{_simple_text(statement)};"]
    lines = [f"{indent}{word} {expression_text(statement[1])} " + "{"]
    lines.extend(_block_lines(statement[2], indent + INDENT))
    if word == "if" and len(statement[3]) > 0:
        lines.append(indent + "} else {")
        lines.extend(_block_lines(statement[3], indent + INDENT))
    return lines + [indent + "}"]


def _simple_text(statement):
    """Returns the text of a statement without blocks, up to its semicolon."""
    word = statement[0]
    if word == "let":
        return f"let {statement[1]}: {statement[2]} = {expression_text(statement[3])}"
    if word == "set":
        return f"{statement[1]} = {expression_text(statement[2])}"
    if word == "move":
        return f"move {expression_text(statement[1])} to {expression_text(statement[2])}"
    if word == "fork":
        return "fork " + _call_text(statement)
    if word == "do":
        return expression_text(statement[1])
    return f"{word} {expression_text(statement[1])}"
