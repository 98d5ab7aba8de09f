"""The grammar of the document as plain rows, and a recognizer that tells the first token that fits no text.

It knows neither the limits of numbers of parts nor those of brackets; it shares nothing with the reader.
"""

import re

WORDS = ("interface maker attached field op let if else while return print move to fork nil self new and or not int "
         "start").split()

GRAMMAR = {
    "program": ["interfaces makers start block"],
    "interfaces": ["", "interfaces interface-"],
    "interface-": ["interface NAME { promises }"],
    "promises": ["", "promises NAME ( kinds? ) : kind ;"],
    "kinds?": ["", "kinds"],
    "kinds": ["kind", "kinds , kind"],
    "makers": ["", "makers maker-"],
    "maker-": ["maker NAME ( params? ) { fields ops }"],
    "params?": ["", "params"],
    "params": ["param", "params , param"],
    "param": ["attached? NAME : kind"],
    "attached?": ["", "attached"],
    "fields": ["", "fields field-"],
    "field-": ["attached? field NAME : int first ;", "attached? field NAME : NAME ;"],
    "first": ["", "= DIGITS", "= - DIGITS"],
    "ops": ["", "ops op-"],
    "op-": ["op NAME ( plain? ) : kind block"],
    "plain?": ["", "plain"],
    "plain": ["NAME : kind", "plain , NAME : kind"],
    "block": ["{ statements }"],
    "statements": ["", "statements statement"],
    "statement": ["let NAME : kind = expr ;", "NAME = expr ;", "if expr block", "if expr block else block",
                  "while expr block", "return expr ;", "print expr ;", "move expr to expr ;",
                  "fork post . NAME args ;", "expr ;"],
    "expr": ["both", "expr or both"],
    "both": ["unit", "both and unit"],
    "unit": ["not unit", "sum", "sum < sum", "sum <= sum", "sum == sum"],
    "sum": ["product", "sum + product", "sum - product"],
    "product": ["post", "product * post"],
    "post": ["atom", "post . NAME args"],
    "args": ["( exprs? )"],
    "exprs?": ["", "exprs"],
    "exprs": ["expr", "exprs , expr"],
    "atom": ["DIGITS", "nil", "self", "NAME", "new NAME args", "( expr )"],
    "kind": ["int", "NAME"],
}
ROWS = {head: [tuple(row.split()) for row in rows] for head, rows in GRAMMAR.items()}


def parts(text):
    """The tokens of a text, each a pair (its text, its line)."""
    found = []
    for number, line in enumerate(text.split("\n"), 1):
        found.extend([(part, number) for part in re.findall(r"[A-Za-z0-9]+|==|<=|[^ ]", line)])
    return found


def sort_of(part):
    if part in WORDS:
        return part
    if re.fullmatch("[A-Za-z][A-Za-z0-9]{0,11}", part):
        return "NAME"
    if re.fullmatch("0|[1-9][0-9]{0,12}", part) and int(part) <= 10 ** 12:
        return "DIGITS"
    return part


def first_bad(sorts, head):
    """The index of the first token with which no text goes on; their number if the text ends too early, None if
    nothing is wrong."""
    columns = []
    column = close(columns, [(head, row, 0, 0) for row in ROWS[head]])
    for at, sort in enumerate(sorts):
        columns.append(column)
        stepped = [(left, row, dot + 1, begin) for left, row, dot, begin in column if row[dot:dot + 1] == (sort,)]
        if not stepped:
            return at
        column = close(columns, stepped)
    whole = [item for item in column if item[0] == head and item[2] == len(item[1]) and item[3] == 0]
    return None if whole else len(sorts)


def close(columns, items):
    """A column of Earley's algorithm. Parts that may be empty are stepped over at once."""
    here = len(columns)
    seen = {}
    pending = list(items)
    while pending:
        item = pending.pop()
        if item in seen:
            continue
        seen[item] = True
        left, row, dot, begin = item
        if dot == len(row):
            back = list(columns[begin]) if begin < here else list(seen)
            pending.extend([(l, r, d + 1, b) for l, r, d, b in back if r[d:d + 1] == (left,)])
        elif row[dot] in ROWS:
            pending.extend([(row[dot], inner, 0, here) for inner in ROWS[row[dot]]])
            if can_be_empty(row[dot]):
                pending.append((left, row, dot + 1, begin))
    return list(seen)


def can_be_empty(head):
    return () in ROWS[head]


def bad_line(text, head):
    """The line of the first token that cannot stand, None if the text is of the grammar."""
    found = parts(text)
    at = first_bad([sort_of(part) for part, _ in found], head)
    if at is None:
        return None
    return found[at][1] if at < len(found) else text.count("\n") + 1
