"""Finding objects that move from place to place."""

from portage.errors import NotAllowed
from portage.letters import is_on_the_way, object_of


def home_of(name, places):
    """Returns the place that each place knows to be the home of an object, from its name alone."""
    process, k = name
    return (sum(process) + 3 * len(process) + k) % places


class Finder:
    """What a place, one of so many, has heard of objects, and the bodies that wait there for them."""

    def __init__(self, me, places):
        self._me = me
        self._places = places
        self._marks = {}
        self._waiting = []

    def hear(self, name, place, count):
        """Hears that an object, when its count is this one, is at a place."""
        if not 0 <= place < self._places or count < 0:
            raise NotAllowed("there is no such place, or no such count")
        mark = self.mark(name)
        if mark is None or count > mark[1]:
            self._marks[name] = (place, count)

    def mark(self, name):
        """Returns the mark of an object, None if there is none."""
        return self._marks.get(name)

    def forget(self, name):
        """Takes the mark of an object away."""
        if name in self._marks:
            del self._marks[name]

    def way(self, name, count, here):
        """Returns where a body with this count goes on to an object; `here` says whether its bundle is at the place."""
        if here:
            return "here"
        mark = self.mark(name)
        if mark is not None and mark[1] > count and mark[0] != self._me:
            return ("go",) + mark
        home = home_of(name, self._places)
        if count >= 0 or home == self._me:
            return "park"
        return "go", home, -1

    def park(self, body):
        """Lets a way body wait."""
        if not is_on_the_way(body):
            raise NotAllowed("only bodies on the way to an object are parked")
        self._waiting.append(body)

    def unpark(self, name):
        """Takes out the bodies that wait for an object; returns the list of them, in their order."""
        found = [body for body in self._waiting if object_of(body) == name]
        self._waiting = [body for body in self._waiting if object_of(body) != name]
        return found

    def parked(self):
        """Returns the tuple of the bodies that wait, in their order."""
        return tuple(self._waiting)

    def image(self):
        """Returns the marks and the bodies that wait."""
        return tuple([(name,) + self._marks[name] for name in sorted(self._marks)]), self.parked()

    def copy(self):
        """Returns a finder that is the same, and changes by itself."""
        twin = Finder(self._me, self._places)
        twin._marks = {name: self._marks[name] for name in self._marks}
        twin._waiting = list(self._waiting)
        return twin
