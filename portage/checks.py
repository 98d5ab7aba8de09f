"""Whether a program is good, and the first place at which it is not."""

from portage.blocks import all_blocks, let_names
from portage.bodies import Body
from portage.errors import BadKind
from portage.fitting import BARE, INT, Fitting
from portage.kinds import operations_of


def check_program(program):
    """Returns None if the program is good; otherwise raises BadKind with the first place at which it is not."""
    interfaces, makers, start = program
    _check_different([part[0] for part in interfaces + makers], "names")
    known = [INT] + [interface[0] for interface in interfaces]
    for interface in interfaces:
        _check_operations(interface, known, f"interface {interface[0]}")
    fitting = Fitting(program)
    for maker in makers:
        _check_head(maker, known)
        for operation in maker[3]:
            _check_operation(maker, operation, fitting)
    _check_returning(start, "start")
    _check_different(let_names(start), "start")
    Body(fitting, "start", BARE, INT).check(start, {})


def returns(block):
    """Says whether a block ends with a `return`, or with an `if` whose both blocks return."""
    if len(block) == 0:
        return False
    last = block[-1]
    if last[0] == "if":
        return returns(last[2]) and returns(last[3])
    return last[0] == "return"


def _check_different(names, place):
    if len(set(names)) != len(names):
        raise BadKind(place)


def _check_known(kinds, known, place):
    for kind in kinds:
        if kind not in known:
            raise BadKind(place)


def _check_operations(part, known, place):
    """Checks the names and kinds of the operations of an interface or a maker."""
    operations = operations_of(part)
    _check_different([operation[0] for operation in operations], place)
    for _, kinds, result in operations:
        _check_known(kinds + (result,), known, place)


def _check_head(maker, known):
    """Checks a maker without what stands in its operations."""
    place = f"maker {maker[0]}"
    held = maker[1] + maker[2]
    _check_different([part[1] for part in held], place)
    _check_known([part[2] for part in held], known, place)
    _check_operations(maker, known, place)


def _check_operation(maker, operation, fitting):
    """Checks the names of the parameters of an operation, and its block."""
    name, params, result, block = operation
    place = f"maker {maker[0]} op {name}"
    names = {part[1]: part[2] for part in maker[1] + maker[2]}
    _check_different(list(names) + [param for param, _ in params] + let_names(block), place)
    _check_returning(block, place)
    for param, kind in params:
        names[param] = kind
    Body(fitting, place, maker[0], result).check(block, names)


def _check_returning(block, place):
    """Checks that the block returns, and that nothing stands behind a `return` in it or in the blocks within it."""
    if not returns(block):
        raise BadKind(place)
    for inner in all_blocks(block):
        if "return" in [statement[0] for statement in inner[:-1]]:
            raise BadKind(place)
