"""Places and bundles for the tests: makers whose code is written out, and states with what is there and nothing else."""

from portage.place import Place

NIL = ("nil",)
FIRST = ((), 0)
PLACES = 4
NO_POST = ((), (), ())
# With four places the home of the object is the one with this number.
HOMES = {place: ((), place) for place in range(PLACES)}


def image_of(code, locals_many=1):
    """An image in which the maker M has an operation `op` of this code, and others to be called."""
    rows = (("op", 1, locals_many, code), ("get", 2, 4, (("push", 1), ("return",))), ("end", 0, 0, (("nil",), ("return",))))
    makers = (("M", 1, (8, NIL), (0, 2), rows), ("E", 0, (), (), (("end", 0, 1, (("push", 5), ("return",))),)))
    return makers, ("start", 0, 0, (("push", 7), ("return",)))


def ref(name):
    return ("ref", name)


def frame(operation="op", at=0, held=(0,), stack=()):
    return (operation, at, held, stack)


def entry(process=(1,), depth=0, inner=frame(), back=(), token=(4, 2), word=""):
    return (process, depth, inner, back, token, word)


def bundle(name, entries=(), count=0, fields=(5, 8, NIL), maker="M"):
    return (name, maker, fields, tuple(entries), count)


def empty(name, count=0):
    return (name, "E", (), (), count)


def place_with(me, bundles, code=(("push", 6),), marks=(), parked=()):
    """A place of four; it hears marks, and parks bodies, before the bundles are put there."""
    place = Place(image_of(code), PLACES, me)
    for name, other, count in marks:
        place.arrive(("at", name, other, count))
    for body in parked:
        place.arrive(body)
    for one in bundles:
        place.put(one)
    return place


def state(bundles, marks, post=NO_POST, parked=(), ended=(), given=(), taken=(), stopped=0, notes=(), burst=(), prints=()):
    """The state of a place with these parts."""
    return (tuple(sorted(bundles)), post, (tuple(sorted(marks)), parked), ended, given, taken, stopped, notes, burst, prints)


def posted(me, *letters):
    """The image of a post that was given letters, pairs of a place and a body, and the numbers that it has given."""
    numbers = {}
    found = []
    for other, body in letters:
        found.append((me, other, numbers.get(other, 0), body))
        numbers[other] = numbers.get(other, 0) + 1
    return (tuple(found), tuple(sorted(numbers.items())), ())
