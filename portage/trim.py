"""Which objects of a state are reached, and the state without the others."""

from portage.values import is_reference


def references(values):
    """Returns the ascending list of the names of the objects to which values refer, each once."""
    return sorted({value[1] for value in values if is_reference(value)})


def reached(state):
    """Returns the ascending list of the names of the reached objects."""
    fields = {name: values for name, _, values in state[0]}
    found = {}
    pending = _held_by_frames(state[1])
    while len(pending) > 0:
        name = pending.pop()
        if name in fields and name not in found:
            found[name] = True
            pending.extend(references(fields[name]))
    return sorted(found)


def trim(state):
    """Returns the state without the objects that are not reached."""
    objects, processes, prints = state
    names = {name: True for name in reached(state)}
    return tuple([row for row in objects if row[0] in names]), processes, prints


def _held_by_frames(processes):
    """Returns the list of the objects to which frames belong, or to which their locals and stacks refer."""
    found = []
    for _, _, status, frames in processes:
        if status[0] != "done":
            for owner, (_, _, held, stack) in frames:
                found.append(owner)
                found.extend(references(held + stack))
    return found
