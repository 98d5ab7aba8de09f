"""A place of a world: its bundles, whose frames work here, with its post, its finder, and what it has counted."""

from portage.entries import entry_of, is_ready, with_entry, with_fields, without_entry
from portage.entries import with_frame, with_token, with_word
from portage.errors import NotAllowed
from portage.finding import Finder, home_of
from portage.gather import control
from portage.letters import count_of, is_on_the_way, is_working, object_of, with_count
from portage.micro import first_fields, first_frame, micro, pushed
from portage.moves import goes_with, lifted
from portage.post import Post


class Place:
    """The place with the number `me` of a world with so many places."""

    def __init__(self, image, places, me):
        self._image = image
        self._places = places
        self._me = me
        self._bundles = {}
        self._post = Post(me)
        self._finder = Finder(me, places)
        self._ended = {}
        self._given = {}
        self._taken = {}
        self._stopped = 0
        self._notes = ()
        self._burst = []
        self._prints = []

    def put(self, bundle):
        """Adds a bundle; the finder hears that it is here."""
        if self.has(bundle[0]):
            raise NotAllowed("there is a bundle of this name")
        self._hold(bundle)
        self._finder.hear(bundle[0], self._me, bundle[4])

    def has(self, name):
        """Says whether the bundle of an object is here."""
        return name in self._bundles

    def _hold(self, bundle):
        """Keeps a bundle, in the place of the one of its name."""
        self._bundles[bundle[0]] = bundle

    def bundles(self):
        """Returns the tuple of the bundles, ascending."""
        return tuple([self._bundles[name] for name in sorted(self._bundles)])

    def ended(self):
        """Returns the ascending tuple of the processes that have ended here, each with its token and its value."""
        return tuple([(process,) + self._ended[process] for process in sorted(self._ended)])

    def parked(self):
        """Returns the tuple of the parked bodies, in order."""
        return self._finder.parked()

    def outbox(self):
        """Returns the tuple of the letters that are not acknowledged."""
        return self._post.outbox()

    def has_taken(self, other, number):
        """Says whether the letter of another place with this number has been taken."""
        return self._post.is_taken(other, number)

    def ready(self):
        """Returns the ascending list of the processes that are ready here."""
        return sorted({entry[0] for bundle in self._bundles.values() for entry in bundle[3] if is_ready(entry)})

    def me(self):
        """Returns the number of the place."""
        return self._me

    def places(self):
        """Returns the number of places of the world."""
        return self._places

    def stopped(self):
        """Returns the round in which the place is stopped, or 0."""
        return self._stopped

    def stop(self, turn):
        """Stops the place in a round; 0 lets it go again."""
        self._stopped = turn

    def notes(self):
        """Returns the notes of the rounds."""
        return self._notes

    def note(self, notes):
        """Sets the notes of the rounds."""
        self._notes = notes

    def can_work(self, process):
        """Says whether a process can work here."""
        return self._stopped == 0 and len(self._ready_entries(process)) > 0

    def _ready_entries(self, process):
        """Returns the list of the ready entries of a process, each behind its bundle; there is one at most."""
        bundles = self._bundles
        return [(row, entry) for row in bundles.values() for entry in row[3] if entry[0] == process and is_ready(entry)]

    def work(self, process):
        """Carries out the next instruction of a process."""
        if not self.can_work(process):
            raise NotAllowed("the process cannot work here")
        bundle, entry = self._ready_entries(process)[0]
        name, maker, fields, _, _ = bundle
        result = micro(self._image, maker, name, fields, entry[2])
        word = result[0]
        if word == "fault":
            self._hold(with_entry(bundle, with_word(entry, result[1])))
        elif word == "return":
            self._hold(without_entry(bundle, entry))
            self._return(entry, result[1])
        elif word == "next":
            self._hold(with_fields(with_entry(bundle, with_frame(entry, result[1])), result[2]))
        else:
            self._carry_out(bundle, with_frame(entry, result[-1]), result)
        self._burst.append(process)

    def _return(self, entry, value):
        """Sends the value of a frame that is gone to the frame that called it, or ends the process."""
        process, depth, _, back, token, _ = entry
        if depth == 0:
            self._ended[process] = (token, value)
        else:
            self.arrive(("return", back, -1, process, depth - 1, value, token))

    def _carry_out(self, bundle, entry, result):
        """Does what an instruction asks beyond its own frame, which the entry has as it is behind the instruction."""
        word = result[0]
        process, depth, _, _, token, _ = entry
        news, forks = token
        if word == "print":
            self._hold(with_entry(bundle, entry))
            self._prints.append((process, result[1]))
        elif word == "new":
            made = (process, news)
            frame = pushed(entry[2], ("ref", made))
            self._hold(with_entry(bundle, with_token(with_frame(entry, frame), (news + 1, forks))))
            self._make(made, result[1], result[2])
        elif word == "call":
            self._hold(with_entry(bundle, with_token(entry, None)))
            self.arrive(("call", result[1], -1, process, depth + 1, bundle[0], result[2], result[3], token))
        elif word == "fork":
            self._hold(with_entry(bundle, with_token(entry, (news, forks + 1))))
            self.arrive(("call", result[1], -1, process + (forks,), 0, (), result[2], result[3], (0, 0)))
        else:
            self._hold(with_entry(bundle, entry))
            self.arrive(("please", result[1], -1, result[2] % self._places))

    def _make(self, name, maker, arguments):
        """Makes an object here, and lets its home know."""
        self.put((name, maker, first_fields(self._image, maker, arguments), (), 0))
        self.announce(name, self._me, 0)

    def arrive(self, body):
        """Lets a body come in, from another place or from this one."""
        if is_on_the_way(body):
            self._arrive_on_the_way(body)
        elif body[0] == "at":
            _, name, place, count = body
            self._finder.hear(name, place, count)
            self.again(name)
        elif body[0] == "carry":
            self._unpack(body[1])
        else:
            # All others of a round come from the place that leads it.
            control(self, body[3] if body[0] == "told" else 0, body)

    def _arrive_on_the_way(self, body):
        """Lets the bundle of a body have it, sends it on, or lets it wait."""
        name = object_of(body)
        way = self._finder.way(name, count_of(body), self.has(name))
        if way == "here":
            self._receive(self._bundles[name], body)
        elif way == "park":
            self._finder.park(body)
        else:
            _, other, count = way
            self.give(other, with_count(body, count))

    def _receive(self, bundle, body):
        """Does what a body asks of its bundle, which is here."""
        word = body[0]
        if word == "call":
            _, _, _, process, depth, back, operation, arguments, token = body
            frame = first_frame(self._image, bundle[1], operation, arguments)
            self._hold(with_entry(bundle, (process, depth, frame, back, token, "")))
        elif word == "return":
            _, _, _, process, depth, value, token = body
            entry = entry_of(bundle, process, depth)
            self._hold(with_entry(bundle, with_token(with_frame(entry, pushed(entry[2], value)), token)))
        elif body[3] != self._me:
            # A stopped place does this, too: what is under way would not come to rest otherwise.
            self._carry_off(bundle[0], body[3])

    def _unpack(self, bundles):
        """Puts bundles that were carried in here, and lets go on what has waited for them."""
        for bundle in bundles:
            self.put(bundle)
        for name in sorted([bundle[0] for bundle in bundles]):
            self.again(name)

    def take(self, letter):
        """Takes a letter; its body arrives if the letter is new."""
        sender, _, _, body = letter
        if self._post.take(letter):
            if is_working(body):
                self._taken[sender] = self.taken(sender) + 1
            self.arrive(body)

    def give(self, other, body):
        """Gives a body to the post for another place."""
        self._post.give(other, body)
        if is_working(body):
            self._given[other] = self.given(other) + 1

    def announce(self, name, place, count):
        """Lets the finder here and the home of an object know at which place it is with this count."""
        self._finder.hear(name, place, count)
        home = home_of(name, self._places)
        if home != self._me and home != place:
            self.give(home, ("at", name, place, count))

    def again(self, name):
        """Lets the parked bodies of an object arrive again, in order."""
        bodies = self._finder.unpark(name)
        for body in bodies:
            self.arrive(body)

    def can_carry(self, name, goal):
        """Says whether the bundle of an object can be carried to a place from here."""
        return self.has(name) and 0 <= goal < self._places and goal != self._me and self._stopped == 0

    def carry(self, name, goal):
        """Carries the bundle of an object, and all that go with it, to another place."""
        if not self.can_carry(name, goal):
            raise NotAllowed("the bundle cannot be carried there")
        self._carry_off(name, goal)

    def _carry_off(self, name, goal):
        """Sends the bundle of an object, and all that go with it, to another place."""
        names = goes_with(self._image, self._bundles, name)
        bundles = [lifted(self._bundles[other]) for other in names]
        for bundle in bundles:
            del self._bundles[bundle[0]]
            self.announce(bundle[0], goal, bundle[4])
        self.give(goal, ("carry", tuple(bundles)))

    def drop(self, names):
        """Takes away the bundles with these names, and the marks of these objects."""
        for name in names:
            if self.has(name):
                del self._bundles[name]
            self._finder.forget(name)

    def given(self, other):
        """Returns the number of working letters that were given to a place."""
        return self._given.get(other, 0)

    def taken(self, other):
        """Returns the number of working letters that were taken from a place."""
        return self._taken.get(other, 0)

    def burst(self):
        """Returns the tuple of the processes that have worked since the last commit, in order."""
        return tuple(self._burst)

    def prints(self):
        """Returns the tuple of what was printed since the last commit, in order."""
        return tuple(self._prints)

    def settle(self):
        """Empties the burst and the prints."""
        self._burst = []
        self._prints = []

    def answers(self):
        """Returns the tuple of the acknowledgements."""
        return self._post.answers()

    def state(self):
        """Returns all that the place holds, as one tuple."""
        given = tuple(sorted(self._given.items()))
        taken = tuple(sorted(self._taken.items()))
        return (self.bundles(), self._post.image(), self._finder.image(), self.ended(), given, taken,
                self._stopped, self._notes, self.burst(), self.prints())

    def copy(self):
        """Returns a place with the same state, which changes by itself."""
        twin = Place(self._image, self._places, self._me)
        twin._bundles = {name: self._bundles[name] for name in self._bundles}
        twin._post = self._post.copy()
        twin._finder = self._finder.copy()
        twin._ended = {process: self._ended[process] for process in self._ended}
        twin._given = dict(self._given)
        twin._taken = dict(self._taken)
        twin._stopped = self._stopped
        twin._notes = self._notes
        twin._burst = list(self._burst)
        twin._prints = list(self._prints)
        return twin
