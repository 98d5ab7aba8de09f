"""Which objects of a state are reached, and the state without the others."""

from portage.values import is_reference


def references(values):
    """Returns the ascending list of the names of the objects to which values refer, each once."""
    return sorted({value[1] for value in values if is_reference(value)})


def led_to(names, leads):
    """Returns the ascending list of what is among these names, or is led to from there.

    `leads` is a dict that says of each name to which ones it leads; names that it does not have are left out.
    """
    found = {}
    pending = list(names)
    while len(pending) > 0:
        name = pending.pop()
        if name in leads and name not in found:
            found[name] = True
            pending.extend(leads[name])
    return sorted(found)


def reached(state):
    """Returns the ascending list of the names of the reached objects."""
    return led_to(_held_by_frames(state[1]), {name: references(fields) for name, _, fields in state[0]})


def trim(state):
    """Returns the state without the objects that are not reached."""
    objects, processes, prints = state
    names = {name: True for name in reached(state)}
    return tuple([row for row in objects if row[0] in names]), processes, prints


def _held_by_frames(processes):
    """Returns the list of the objects to which frames belong, or to which their locals and stacks refer."""
    found = []
    for _, _, status, frames in processes:
        if status[0] != "done":
            for owner, (_, _, held, stack) in frames:
                found.append(owner)
                found.extend(references(held + stack))
    return found
