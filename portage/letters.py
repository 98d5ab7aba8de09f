"""The bodies of letters."""

from portage.errors import NotAllowed

WORKING = ("call", "return", "please", "carry", "at")
ON_THE_WAY = ("call", "return", "please")


def is_working(body):
    """Says whether a body is a working one."""
    return body[0] in WORKING


def is_on_the_way(body):
    """Says whether a body is for an object, wherever it may be."""
    return body[0] in ON_THE_WAY


def object_of(body):
    """Returns the name of the object that a way body is for, or of which an `at` tells."""
    if body[0] != "at":
        _check_way(body)
    return body[1]


def count_of(body):
    """Returns the count of a way body."""
    _check_way(body)
    return body[2]


def with_count(body, count):
    """Returns a way body with another count."""
    _check_way(body)
    return body[:2] + (count,) + body[3:]


def _check_way(body):
    if not is_on_the_way(body):
        raise NotAllowed("the body is not on the way to an object")
