"""Programs as trees: their forms, their parts, and their limits."""

from portage.errors import NotAllowed, TooLarge

MAX_NUMBER = 1000000000000
MAX_PARTS = 8
MAX_NODES = 600
MAX_DEPTH = 30
MAX_NAME = 12
WORDS = (
    "interface", "maker", "attached", "field", "op", "let", "if", "else", "while", "return", "print", "move",
    "to", "fork", "nil", "self", "new", "and", "or", "not", "int", "start",
)

# The roles of what stands behind the first word of a statement and of an expression.
STATEMENTS = {
    "let": ("name", "kind", "expression"),
    "set": ("name", "expression"),
    "if": ("expression", "block", "block"),
    "while": ("expression", "block"),
    "return": ("expression",),
    "print": ("expression",),
    "move": ("expression", "expression"),
    "fork": ("expression", "name", "arguments"),
    "do": ("expression",),
}
EXPRESSIONS = {
    "int": ("number",),
    "nil": (),
    "self": (),
    "name": ("name",),
    "add": ("expression", "expression"),
    "sub": ("expression", "expression"),
    "mul": ("expression", "expression"),
    "less": ("expression", "expression"),
    "most": ("expression", "expression"),
    "same": ("expression", "expression"),
    "and": ("expression", "expression"),
    "or": ("expression", "expression"),
    "not": ("expression",),
    "call": ("expression", "name", "arguments"),
    "new": ("name", "arguments"),
}


def is_name(text):
    """Says whether a text is a name."""
    if len(text) > MAX_NAME or text in WORDS:
        return False
    return text.isascii() and text.isalnum() and text[0].isalpha()


def is_integer(value):
    """Says whether a value is an integer; True and False are none here."""
    return isinstance(value, int) and not isinstance(value, bool)


def check_tree(program):
    """Raises NotAllowed if this is no program, then TooLarge if its blocks are beyond the limits."""
    interfaces, makers, start = _row(program, 3)
    for interface in _few(interfaces):
        _check_interface(interface)
    for maker in _few(makers):
        _check_maker(maker)
    _check_part("block", start)
    check_size(outer_statements(program))


def _row(value, many):
    """Returns the value if it is a tuple of so many elements."""
    if not isinstance(value, tuple) or len(value) != many:
        raise NotAllowed("a part is not a tuple of the right length")
    return value


def _few(value):
    """Returns the value if it is a tuple that has not too many parts."""
    if not isinstance(value, tuple) or len(value) > MAX_PARTS:
        raise NotAllowed("a part is not a tuple, or has too many parts")
    return value


def _check_interface(interface):
    name, operations = _row(interface, 2)
    _check_part("name", name)
    for operation in _few(operations):
        operation_name, kinds, result = _row(operation, 3)
        _check_part("name", operation_name)
        for kind in _few(kinds):
            _check_part("kind", kind)
        _check_part("kind", result)


def _check_maker(maker):
    name, params, fields, operations = _row(maker, 4)
    _check_part("name", name)
    for param in _few(params):
        _check_attached(_row(param, 3))
    for field in _few(fields):
        _check_field(_row(field, 4))
    for operation in _few(operations):
        _check_operation(_row(operation, 4))


def _check_attached(part):
    """Checks what params and fields of a maker have in common."""
    if not isinstance(part[0], bool):
        raise NotAllowed("a param or field does not tell whether it is attached")
    _check_part("name", part[1])
    _check_part("kind", part[2])


def _check_field(field):
    _check_attached(field)
    first = field[3]
    if not is_integer(first) or not -MAX_NUMBER <= first <= MAX_NUMBER:
        raise NotAllowed("a first value is not a number within the limits")
    if first != 0 and field[2] != "int":
        raise NotAllowed("a first value stands at a field that is not an int")


def _check_operation(operation):
    name, params, result, block = operation
    _check_part("name", name)
    for param in _few(params):
        param_name, kind = _row(param, 2)
        _check_part("name", param_name)
        _check_part("kind", kind)
    _check_part("kind", result)
    _check_part("block", block)


def _check_part(role, value):
    """Checks a value and all that is in it, one depth after another, so that deep trees need no deep calls."""
    level = [(role, value)]
    while level:
        level = [inner for part in level for inner in _parts_in_role(part[0], part[1])]


def _parts_in_role(role, value):
    """Returns the pairs of role and value that stand directly in a value of this role."""
    if role == "statement" or role == "expression":
        return list(zip(_roles_of(role, value), value[1:]))
    if role == "arguments":
        return [("expression", part) for part in _few(value)]
    if role == "block":
        if not isinstance(value, tuple):
            raise NotAllowed("a block is not a tuple")
        return [("statement", part) for part in value]
    if not _is_leaf(role, value):
        raise NotAllowed(f"a {role} is not of its form")
    return []


def _roles_of(role, value):
    """Returns the roles of the elements behind the first word of a statement or an expression."""
    if not isinstance(value, tuple) or len(value) == 0 or not isinstance(value[0], str):
        raise NotAllowed(f"a part that should be a {role} is none")
    roles = STATEMENTS.get(value[0]) if role == "statement" else EXPRESSIONS.get(value[0])
    if roles is None or len(value) != len(roles) + 1:
        raise NotAllowed(f"a part that should be a {role} is none")
    return roles


def _is_leaf(role, value):
    """Says whether a value is a number, a name or a kind, as the role asks."""
    if role == "number":
        return is_integer(value) and 0 <= value <= MAX_NUMBER
    if not isinstance(value, str):
        return False
    return is_name(value) or (role == "kind" and value == "int")


def parts_of(node):
    """Returns the list of the statements and expressions that stand directly in a statement or expression."""
    roles = STATEMENTS[node[0]] if node[0] in STATEMENTS else EXPRESSIONS[node[0]]
    found = []
    for role, part in zip(roles, node[1:]):
        if role == "expression":
            found.append(part)
        elif role == "block" or role == "arguments":
            found.extend(part)
    return found


def outer_statements(program):
    """Returns the list of the statements that stand directly in the blocks of operations and of the start."""
    blocks = [operation[3] for maker in program[1] for operation in maker[3]] + [program[2]]
    return [statement for block in blocks for statement in block]


def _many_at_depths(nodes):
    """Returns the list of how many statements and expressions there are at each depth, the nodes themselves first."""
    many = []
    level = list(nodes)
    while level:
        many.append(len(level))
        level = [part for node in level for part in parts_of(node)]
    return many


def check_size(nodes):
    """Raises TooLarge if statements or expressions, with all that is in them, are too many or too deep."""
    many = _many_at_depths(nodes)
    if sum(many) > MAX_NODES or len(many) > MAX_DEPTH:
        raise TooLarge("too many or too deep statements and expressions")


def count_nodes(block):
    """Returns the number of statements and expressions in a block."""
    return sum(_many_at_depths(block))


def depth_of(block):
    """Returns the greatest depth of a statement in a block, 0 if there is none."""
    return len(_many_at_depths(block))
