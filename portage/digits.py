"""The texts of numbers."""

from portage.errors import NotAllowed

# As many as MAX_NUMBER has: longer rows of digits are not made into numbers at all.
MAX_DIGITS = 13
# The greatest one in scripts, and in names that are read by themselves.
MAX_SHORT = 9999


def number_in(text):
    """Returns the number of a text of digits without leading zeros; whether it is too large is for others to see."""
    if not (text.isascii() and text.isdigit()) or len(text) > MAX_DIGITS or (text[0] == "0" and text != "0"):
        raise NotAllowed("this is not a number")
    return int(text)


def short_number_in(text):
    """Returns the number of such a text, which is at most MAX_SHORT."""
    number = number_in(text)
    if number > MAX_SHORT:
        raise NotAllowed("this number is too large")
    return number
