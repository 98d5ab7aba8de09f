"""A world of places: what they hold now, what they have kept, the letters in the air, and the events."""

from portage.errors import NotAllowed
from portage.gather import start_round
from portage.micro import first_frame
from portage.place import Place

MAX_PLACES = 8


class World:
    """The places on which the program of an image runs, at first at its beginning."""

    def __init__(self, image, places):
        if not 1 <= places <= MAX_PLACES:
            raise NotAllowed("there are not so many places")
        self._image = image
        self._present = [Place(image, places, p) for p in range(places)]
        self._present[0].put(_first_bundle(image))
        self._kept = [place.copy() for place in self._present]
        self._air = []
        self._order = []
        self._prints = []

    def can(self, event):
        """Says whether an event can happen."""
        word = event[0]
        if word == "deliver":
            return 0 <= event[1] < len(self._air)
        p = 0 if word == "gather" else event[1]
        if not 0 <= p < len(self._present):
            return False
        place = self._present[p]
        if word == "work":
            return place.can_work(event[2])
        if word == "push":
            return place.can_carry(event[2], event[3])
        return word != "gather" or place.stopped() == 0

    def do(self, event):
        """Lets an event happen."""
        if not self.can(event):
            raise NotAllowed("the event cannot happen")
        word = event[0]
        if word == "work":
            self._present[event[1]].work(event[2])
        elif word == "push":
            self._present[event[1]].carry(event[2], event[3])
        elif word == "commit":
            self._commit(event[1])
        elif word == "send":
            place = self._kept[event[1]]
            self._air.extend(place.outbox() + place.answers())
        elif word == "deliver":
            letter = self._air[event[1]]
            self._present[letter[1]].take(letter)
        elif word == "fall":
            self._present[event[1]] = self._kept[event[1]].copy()
        else:
            start_round(self._present[0])

    def _commit(self, p):
        """Keeps the present state of a place; what has worked and printed there since the last time counts now."""
        place = self._present[p]
        self._order.extend(place.burst())
        self._prints.extend(place.prints())
        place.settle()
        self._kept[p] = place.copy()

    def play(self, course):
        """Lets the events of a list happen, one after another, up to the first one that cannot."""
        for event in course:
            self.do(event)

    def present(self, p):
        """Returns a copy of the present state of a place."""
        return self._present[p].copy()

    def kept(self, p):
        """Returns a copy of the kept state of a place."""
        return self._kept[p].copy()

    def places(self):
        """Returns the number of places."""
        return len(self._present)

    def image(self):
        """Returns the image."""
        return self._image

    def air(self):
        """Returns the tuple of the letters in the air."""
        return tuple(self._air)

    def order(self):
        """Returns the tuple of the processes that have worked, in the order of what was kept."""
        return tuple(self._order)

    def prints(self):
        """Returns the tuple of what was printed, in the same order."""
        return tuple(self._prints)

    def copy(self):
        """Returns a world that is the same, and changes by itself."""
        twin = World(self._image, self.places())
        twin._present = [place.copy() for place in self._present]
        twin._kept = [place.copy() for place in self._kept]
        twin._air = list(self._air)
        twin._order = list(self._order)
        twin._prints = list(self._prints)
        return twin


def _first_bundle(image):
    """Returns the bundle of the start object, in which the first process begins."""
    entry = ((), 0, first_frame(image, "start", "start", ()), (), (1, 0), "")
    return ((), 0), "start", (), (entry,), 0
