"""The post of a place: each letter that is given to it is taken once, however often it arrives."""

from portage.errors import NotAllowed


class Post:
    """What a place has given and what it has taken; `me` is the number of the place."""

    def __init__(self, me):
        self._me = me
        self._letters = []
        self._numbers = {}
        self._heard = {}

    def give(self, other, body):
        """Gives a body to the post for another place; returns the number of its letter."""
        if other == self._me or other < 0:
            raise NotAllowed("letters go to other places")
        number = self.next_number(other)
        self._letters.append((self._me, other, number, body))
        self._numbers[other] = number + 1
        return number

    def take(self, letter):
        """Takes a letter; says whether it was new. An acknowledgement is noted, and never new."""
        sender, goal, number, body = letter
        if goal != self._me or sender == self._me:
            raise NotAllowed("this letter does not come here")
        if body[0] == "ack":
            self._let_go(sender, body[1:])
            return False
        if self.is_taken(sender, number):
            return False
        self._heard[sender] = _with_number(self.taken(sender), number)
        return True

    def _let_go(self, other, told):
        """Takes the letters to a place out of the outbox that it tells to have taken."""
        self._letters = [letter for letter in self._letters if letter[1] != other or not _tells(told, letter[2])]

    def is_taken(self, other, number):
        """Says whether a number has been taken from another place."""
        return _tells(self.taken(other), number)

    def taken(self, other):
        """Returns what has been taken from another place, a pair (low, beyond)."""
        return self._heard.get(other, (0, ()))

    def next_number(self, other):
        """Returns the number that the next letter to another place gets."""
        return self._numbers.get(other, 0)

    def outbox(self):
        """Returns the tuple of the letters that are not acknowledged, in the order in which they were given."""
        return tuple(self._letters)

    def answers(self):
        """Returns the tuple of the acknowledgements, one for each place from which anything has been taken."""
        return tuple([(self._me, other, -1, ("ack",) + self._heard[other]) for other in sorted(self._heard)])

    def image(self):
        """Returns the outbox, the next numbers, and what has been taken."""
        heard = [(other,) + self._heard[other] for other in sorted(self._heard)]
        return self.outbox(), tuple(sorted(self._numbers.items())), tuple(heard)

    def copy(self):
        """Returns a post that is the same, and changes by itself."""
        twin = Post(self._me)
        twin._letters = list(self._letters)
        twin._numbers = dict(self._numbers)
        twin._heard = dict(self._heard)
        return twin


def _tells(told, number):
    """Says whether a number is among those that a pair (low, beyond) tells."""
    low, beyond = told
    return 0 <= number < low or number in beyond


def _with_number(told, number):
    """Returns a pair (low, beyond) with one more number."""
    low, beyond = told
    numbers = sorted(beyond + (number,))
    at = 0
    while at < len(numbers) and numbers[at] == low + at:
        at += 1
    return low + at, tuple(numbers[at:])
