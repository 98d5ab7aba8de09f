"""Which makers and interfaces conform to which interfaces."""

from portage.errors import Missing


def operations_of(part):
    """Returns the operations of an interface or a maker in one form: a tuple of (name, kinds, result)."""
    if len(part) == 2:
        return part[1]
    return tuple([(name, tuple([param[1] for param in params]), result) for name, params, result, _ in part[3]])


def relation(program):
    """Returns the ascending list of the pairs (name, interface) of which the first conforms to the second."""
    interfaces = {part[0]: operations_of(part) for part in program[0]}
    makers = {part[0]: operations_of(part) for part in program[1]}
    # No maker is a kind of an operation, so the interfaces are settled without the makers.
    held = _greatest(interfaces)
    found = list(held)
    for name, operations in makers.items():
        found.extend([(name, goal) for goal in interfaces if _conforms(operations, interfaces[goal], held)])
    return sorted(found)


def conforms(program, name, interface):
    """Says whether the maker or interface with the first name conforms to the interface with the second one."""
    interfaces = [part[0] for part in program[0]]
    makers = [part[0] for part in program[1]]
    if name not in interfaces + makers or interface not in interfaces:
        raise Missing(f"there is no {name} or no interface {interface}")
    return (name, interface) in relation(program)


def _greatest(interfaces):
    """Returns the greatest relation among interfaces: all pairs but those which are told apart, step by step."""
    held = {(name, goal): True for name in interfaces for goal in interfaces}
    while True:
        kept = {}
        for name, goal in held:
            if _conforms(interfaces[name], interfaces[goal], held):
                kept[(name, goal)] = True
        if len(kept) == len(held):
            return kept
        held = kept


def _conforms(operations, wanted, held):
    """Says whether for each wanted operation there is one that can stand in its place, as far as `held` tells."""
    for goal in wanted:
        if not any([_stands_for(operation, goal, held) for operation in operations]):
            return False
    return True


def _stands_for(operation, goal, held):
    name, kinds, result = operation
    goal_name, goal_kinds, goal_result = goal
    if name != goal_name or len(kinds) != len(goal_kinds) or not _kind_conforms(result, goal_result, held):
        return False
    return all([_kind_conforms(wanted, kind, held) for kind, wanted in zip(kinds, goal_kinds)])


def _kind_conforms(kind, goal, held):
    return (kind == "int" and goal == "int") or (kind, goal) in held
