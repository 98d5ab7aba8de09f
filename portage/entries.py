"""The entries of bundles, (process, depth, frame, back, token, word): one for each frame of the object."""


def is_ready(entry):
    """Says whether the frame of an entry can go on."""
    return entry[4] is not None and entry[5] == ""


def with_frame(entry, frame):
    """Returns the entry with another frame."""
    return entry[:2] + (frame,) + entry[3:]


def with_token(entry, token):
    """Returns the entry with another token, or with None."""
    return entry[:4] + (token,) + entry[5:]


def with_word(entry, word):
    """Returns the entry with another word."""
    return entry[:5] + (word,)


def entry_of(bundle, process, depth):
    """Returns the entry of a process at a depth, which the bundle has."""
    return [entry for entry in bundle[3] if entry[:2] == (process, depth)][0]


def with_entry(bundle, entry):
    """Returns the bundle with an entry, in the place of the one with its process and depth, if there is one."""
    entries = [other for other in bundle[3] if other[:2] != entry[:2]]
    return _with_entries(bundle, sorted(entries + [entry]))


def without_entry(bundle, entry):
    """Returns the bundle without the entry that has the same process and depth as this one."""
    return _with_entries(bundle, [other for other in bundle[3] if other[:2] != entry[:2]])


def _with_entries(bundle, entries):
    return bundle[:3] + (tuple(entries),) + bundle[4:]


def with_fields(bundle, fields):
    """Returns the bundle with other fields."""
    return bundle[:2] + (fields,) + bundle[3:]
