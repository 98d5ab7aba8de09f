"""The tokens of a text, and a place that goes through them."""

from portage.errors import BadForm
from portage.trees import MAX_NUMBER, MAX_PARTS, WORDS, is_name

MAX_AROUND = 100
MAX_DIGITS = 13
SIGNS = ("==", "<=", "{", "}", "(", ")", ":", ";", ",", ".", "=", "<", "+", "-", "*")


def _is_row_sign(character):
    """Says whether a character belongs to names, words and digits."""
    return character.isascii() and character.isalnum()


def _end_of_row(text, at):
    """Returns the index behind the longest row of letters and digits that begins at an index."""
    while at < len(text) and _is_row_sign(text[at]):
        at += 1
    return at


def _is_number(row):
    """Says whether a row of letters and digits is a number of the grammar."""
    if not row.isdigit() or len(row) > MAX_DIGITS:
        return False
    return (row == "0" or row[0] != "0") and int(row) <= MAX_NUMBER


def _sort_of_row(row):
    if row in WORDS:
        return row
    if is_name(row):
        return "name"
    return "digits" if _is_number(row) else "bad"


def _sign_at(text, at):
    """Returns the sign that begins at an index, the longest one, or the empty text."""
    for sign in SIGNS:
        if text.startswith(sign, at):
            return sign
    return ""


def tokens_of(text):
    """Returns the list of the tokens of a text, each a tuple (sort, text, line).

    The sort is "name", "digits", "bad" for what is none, "end" for the last one, otherwise the word or sign itself.
    """
    found = []
    line = 1
    at = 0
    while at < len(text):
        end = _end_of_row(text, at)
        sign = _sign_at(text, at)
        if end > at:
            found.append((_sort_of_row(text[at:end]), text[at:end], line))
        elif sign != "":
            end = at + len(sign)
            found.append((sign, sign, line))
        else:
            end = at + 1
            if text[at] == "\n":
                line += 1
            elif text[at] != " ":
                found.append(("bad", text[at], line))
        at = end
    found.append(("end", "", line))
    return found


class Tokens:
    """The tokens of a text with a place among them, and how many brackets and `not` are around it."""

    def __init__(self, text):
        self.rows = tokens_of(text)
        self.at = 0
        self.around = 0

    def token(self):
        """Returns the sort of the token at the place."""
        return self.rows[self.at][0]

    def following(self):
        """Returns the sort of the token behind the one at the place, which is not the last one."""
        return self.rows[self.at + 1][0]

    def fail(self):
        """Raises the error for the token at the place."""
        raise BadForm(self.rows[self.at][2])

    def take(self, sort):
        """Goes on behind a token, which must be of this sort, and returns its text."""
        if self.token() != sort:
            self.fail()
        text = self.rows[self.at][1]
        self.at += 1
        return text

    def enter(self, sort):
        """Goes on behind a token that stands around what follows."""
        if self.around == MAX_AROUND:
            self.fail()
        self.take(sort)
        self.around += 1

    def leave(self):
        """Notes the end of what the innermost of these tokens stands around."""
        self.around -= 1

    def close(self, sort):
        """Goes on behind the bracket that ends what an opening one stands around."""
        self.take(sort)
        self.leave()

    def goes_on(self, many):
        """Says whether a list in round brackets, with so many parts so far, has one more; takes the comma before it."""
        if self.token() == ")":
            return False
        if many == MAX_PARTS:
            self.fail()
        if many > 0:
            self.take(",")
        return True
