"""What stands in blocks, in the order of the text."""


def blocks_in(statement):
    """Returns the list of the blocks that stand directly in a statement."""
    if statement[0] == "if":
        return [statement[2], statement[3]]
    if statement[0] == "while":
        return [statement[2]]
    return []


def all_blocks(block):
    """Returns the list of a block and all blocks within it."""
    found = [block]
    for statement in block:
        for inner in blocks_in(statement):
            found.extend(all_blocks(inner))
    return found


def let_names(block):
    """Returns the list of the names of the `let` statements in a block and within its statements."""
    found = []
    for statement in block:
        if statement[0] == "let":
            found.append(statement[1])
        for inner in blocks_in(statement):
            found.extend(let_names(inner))
    return found
