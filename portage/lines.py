"""The lines of scripts, read as commands."""

from portage.digits import short_number_in
from portage.errors import NotAllowed
from portage.names import read_object, read_process

# What stands behind the word of a line, for all words but `line`.
FORMS = {
    "begin": ("number",),
    "work": ("number", "process"),
    "commit": ("number",),
    "send": ("number",),
    "deliver": ("number",),
    "fall": ("number",),
    "push": ("number", "object", "number"),
    "gather": (),
    "settle": (),
    "balance": (),
    "ready": ("number",),
    "at": ("number",),
    "air": (),
    "order": (),
    "prints": (),
    "processes": (),
    "look": (),
    "same": (),
}


def read_command(line):
    """Returns the word of a line and what stands behind it, as a tuple; None if the line has no form."""
    if line == "":
        return ()
    word, space, rest = line.partition(" ")
    if word == "line":
        return word, rest
    parts = rest.split(" ") if space != "" else []
    if word not in FORMS or len(parts) != len(FORMS[word]):
        return None
    try:
        return (word,) + tuple([_read_part(role, part) for role, part in zip(FORMS[word], parts)])
    except NotAllowed:
        return None


def _read_part(role, part):
    """Returns what a part of a line stands for."""
    if role == "process":
        return read_process(part)
    if role == "object":
        return read_object(part)
    return short_number_in(part)
