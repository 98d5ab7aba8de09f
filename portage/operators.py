"""The operators of the grammar and how tightly each of them binds."""

# A greater level binds more tightly. What an operator has on its left is at least of its own level, what it has on
# its right is above it; a comparison takes no comparison on its left either.
NOT_LEVEL = 3
COMPARISON_LEVEL = 4
POST_LEVEL = 7
ROWS = (
    ("or", "or", 1),
    ("and", "and", 2),
    ("<", "less", 4),
    ("<=", "most", 4),
    ("==", "same", 4),
    ("+", "add", 5),
    ("-", "sub", 5),
    ("*", "mul", 6),
)


def row_of_sign(sign):
    """Returns the row of the operator that is written like this, None if there is none."""
    for row in ROWS:
        if row[0] == sign:
            return row
    return None


def row_of_word(word):
    """Returns the row of the operator whose expressions begin with this word, None if there is none."""
    for row in ROWS:
        if row[1] == word:
            return row
    return None
