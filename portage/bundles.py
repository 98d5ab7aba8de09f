"""Bundles: objects with the frames that belong to them, ready to be carried; their form and their texts."""

from portage.digits import number_in
from portage.errors import BadForm, NotAllowed
from portage.names import object_in, object_text, process_in, process_text
from portage.texts import value_in, value_text
from portage.trees import is_name
from portage.values import is_natural, is_object_name, is_process_name, is_row, is_value

FAULTS = ("number", "large", "nil")

# The words of a line in front of its parts.
HEAD_WORDS = ("object", "maker", "count", "fields")
FRAME_WORDS = ("frame", "depth", "op", "at", "back", "token", "word", "locals")


def is_bundle(value):
    """Says whether a tuple is a bundle."""
    if not is_row(value, 5):
        return False
    name, maker, fields, entries, count = value
    if not (is_object_name(name) and _is_code_name(maker) and _are_values(fields) and is_natural(count)):
        return False
    if not isinstance(entries, tuple) or not all([_is_entry(entry) for entry in entries]):
        return False
    return all([_is_above(entry, before) for before, entry in zip(entries, entries[1:])])


def _is_code_name(value):
    """Says whether a value can be the name of a maker or an operation."""
    return isinstance(value, str) and (value == "start" or is_name(value))


def _are_values(value):
    return isinstance(value, tuple) and all([is_value(part) for part in value])


def _is_entry(value):
    """Says whether a value can be an entry of a bundle."""
    if not is_row(value, 6):
        return False
    process, depth, frame, back, token, word = value
    if not (is_process_name(process) and is_natural(depth) and _is_frame(frame) and _is_back(back, depth)):
        return False
    if token is None:
        return word == ""
    return is_row(token, 2) and is_process_name(token) and (word == "" or word in FAULTS)


def _is_frame(value):
    if not is_row(value, 4):
        return False
    operation, at, held, stack = value
    return _is_code_name(operation) and is_natural(at) and _are_values(held) and _are_values(stack)


def _is_back(value, depth):
    """Says whether a frame at this depth can go back to an object of this name."""
    if depth == 0:
        return value == ()
    return is_object_name(value)


def _is_above(entry, before):
    """Says whether an entry may stand behind another one."""
    return entry[:2] > before[:2]


def bundle_text(bundle):
    """Returns the text of a bundle."""
    name, maker, fields, entries, count = bundle
    head = f"object {object_text(name)} maker {maker} count {count} fields{_values_text(fields)}\n"
    return head + "".join([_entry_text(entry) for entry in entries])


def _values_text(values):
    """Returns the texts of values, with a space in front of each."""
    return "".join([" " + value_text(value) for value in values])


def _entry_text(entry):
    process, depth, frame, back, token, word = entry
    operation, at, held, stack = frame
    back_text = "-" if depth == 0 else object_text(back)
    token_text = "-" if token is None else f"{token[0]},{token[1]}"
    word_text = "-" if word == "" else word
    return (f"frame {process_text(process)} depth {depth} op {operation} at {at} back {back_text} token {token_text} "
            f"word {word_text} locals{_values_text(held)} stack{_values_text(stack)}\n")


def read_bundle(text):
    """Returns the bundle of a text."""
    lines = text.split("\n")
    unfinished = lines.pop()
    head = None
    entries = []
    for at, line in enumerate(lines):
        try:
            if head is None:
                head = _read_head(line)
            else:
                entries.append(_read_entry(line, entries[-1:]))
        except NotAllowed:
            raise BadForm(at + 1) from None
    if head is None or unfinished != "":
        raise BadForm(len(lines) + 1)
    name, maker, fields, _, count = head
    return name, maker, fields, tuple(entries), count


def _read_head(line):
    """Returns the bundle of a first line, without entries."""
    words = line.split(" ")
    if tuple(words[0:7:2]) != HEAD_WORDS:
        raise NotAllowed("this is not a first line")
    bundle = (object_in(words[1]), words[3], _values_in(words[7:]), (), number_in(words[5]))
    if not is_bundle(bundle):
        raise NotAllowed("this line makes no bundle")
    return bundle


def _values_in(words):
    return tuple([value_in(word) for word in words])


def _read_entry(line, before):
    """Returns the entry of a line; `before` is a list of the entry of the line before it, empty if there is none."""
    words = line.split(" ")
    if tuple(words[0:15:2]) != FRAME_WORDS or "stack" not in words[15:]:
        raise NotAllowed("this is not the line of a frame")
    end = words.index("stack", 15)
    frame = (words[5], number_in(words[7]), _values_in(words[15:end]), _values_in(words[end + 1:]))
    back = () if words[9] == "-" else object_in(words[9])
    entry = (process_in(words[1]), number_in(words[3]), frame, back, _token_in(words[11]), _fault_in(words[13]))
    if not _is_entry(entry) or not all([_is_above(entry, other) for other in before]):
        raise NotAllowed("this entry cannot stand here")
    return entry


def _token_in(text):
    """Returns the token of a text, None for the sign that there is none."""
    if text == "-":
        return None
    news, _, forks = text.partition(",")
    return number_in(news), number_in(forks)


def _fault_in(text):
    """Returns the word of a fault, the empty text for the sign that there is none."""
    if text == "-":
        return ""
    if text not in FAULTS:
        raise NotAllowed("this is not the word of a fault")
    return text
