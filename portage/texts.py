"""The texts of values.

What reads a text raises NotAllowed if it is of another form. Whether a number is too large is seen by those who ask.
"""

from portage.digits import number_in
from portage.names import object_in, object_text
from portage.values import NIL, is_reference


def value_text(value):
    """Returns the text of a value."""
    if value == NIL:
        return "nil"
    if is_reference(value):
        return object_text(value[1])
    return str(value)


def value_in(text):
    """Returns the value of a text."""
    if text == "nil":
        return NIL
    if text.startswith("p"):
        return "ref", object_in(text)
    if text.startswith("-") and text != "-0":
        return -number_in(text[1:])
    return number_in(text)
