import random
import unittest

from portage.errors import NotAllowed
from portage.finding import Finder, home_of
from portage.letters import count_of, with_count

X = ((), 0)
Y = ((1, 1), 2)


def please(name, count, goal=0):
    return ("please", name, count, goal)


class Homes(unittest.TestCase):
    def test_examples(self):
        self.assertEqual((home_of(((0, 2), 5), 4), home_of(((), 0), 4)), (1, 0))

    def test_home_of(self):
        for places in range(1, 9):
            self.assertEqual(home_of(X, places), 0)
        for name, many in ((((), 5), 5), (((0,), 0), 3), (((4,), 0), 7), (((0, 0), 1), 7), (((3, 1, 2), 4), 19),
                           (((0, 0, 0, 0), 0), 12), (((10 ** 12,), 10 ** 12), 2 * 10 ** 12 + 3)):
            self.assertEqual(home_of(name, 1), 0)
            for places in (1, 2, 3, 5, 8, 1000, 10 ** 15):
                self.assertEqual(home_of(name, places), many % places)


class Marks(unittest.TestCase):
    def test_hear(self):
        finder = Finder(0, 4)
        self.assertIsNone(finder.mark(X))
        for place, count, mark in ((2, 0, (2, 0)), (3, 0, (2, 0)), (1, 4, (1, 4)), (0, 4, (1, 4)), (2, 3, (1, 4)), (0, 0, (1, 4)),
                                   (0, 5, (0, 5)), (3, 6, (3, 6)), (3, 10 ** 12, (3, 10 ** 12))):
            self.assertIsNone(finder.hear(X, place, count))
            self.assertEqual(finder.mark(X), mark)
            self.assertIsNone(finder.mark(Y))

    def test_the_order_of_news(self):
        news = [(place, count) for count, place in enumerate([1, 0, 3, 3, 2, 1])]
        for seed in range(20):
            finder = Finder(1, 4)
            heard = list(news)
            random.Random(seed).shuffle(heard)
            for place, count in heard * 2:
                finder.hear(Y, place, count)
            self.assertEqual(finder.image(), (((Y, 1, 5),), ()))

    def test_no_such_news(self):
        finder = Finder(1, 3)
        finder.hear(X, 2, 5)
        before = finder.image()
        for name in (X, Y):
            for place, count in ((3, 9), (-1, 9), (4, 9), (0, -1), (2, -1), (3, -1), (10 ** 12, 9)):
                with self.assertRaises(NotAllowed):
                    finder.hear(name, place, count)
        self.assertEqual(finder.image(), before)

    def test_forget(self):
        finder = Finder(1, 3)
        finder.hear(X, 2, 5)
        finder.hear(Y, 0, 1)
        self.assertIsNone(finder.forget(X))
        self.assertIsNone(finder.mark(X))
        self.assertEqual(finder.mark(Y), (0, 1))
        self.assertIsNone(finder.forget(X))
        self.assertIsNone(finder.forget(((9,), 9)))
        self.assertEqual(finder.image(), (((Y, 0, 1),), ()))
        finder.hear(X, 0, 2)
        self.assertEqual(finder.mark(X), (0, 2))


class Ways(unittest.TestCase):
    def test_examples(self):
        finder = Finder(2, 4)
        self.assertEqual(
            (finder.way(((0, 2), 5), -1, False), finder.way(((), 6), -1, False), finder.way(((), 0), 3, False)),
            (('go', 1, -1), 'park', 'park'))
        finder.hear(((), 0), 3, 4)
        finder.hear(((), 0), 1, 2)
        self.assertEqual((finder.way(((), 0), 3, False), finder.way(((), 0), 4, False), finder.way(((), 0), 9, True)),
                         (('go', 3, 4), 'park', 'here'))

    def test_here(self):
        for mark in (None, (0, 0), (1, 0), (1, 9), (3, 9)):
            for me in range(4):
                finder = Finder(me, 4)
                if mark is not None:
                    finder.hear(X, mark[0], mark[1])
                for count in (-1, 0, 8, 9, 10):
                    self.assertEqual(finder.way(X, count, True), "here")

    def test_without_a_mark(self):
        self.assertEqual(home_of(Y, 4), 2)
        for me in range(4):
            finder = Finder(me, 4)
            self.assertEqual(finder.way(Y, -1, False), "park" if me == 2 else ("go", 2, -1))
            for count in (0, 1, 7):
                self.assertEqual(finder.way(Y, count, False), "park")
            self.assertEqual(finder.image(), ((), ()))

    def test_with_a_mark_elsewhere(self):
        for me in (0, 2, 3):
            for count in (0, 5):
                finder = Finder(me, 4)
                finder.hear(Y, 1, count)
                for body in range(-1, count):
                    self.assertEqual(finder.way(Y, body, False), ("go", 1, count))
                for body in (count, count + 1, count + 7):
                    self.assertEqual(finder.way(Y, body, False), "park")

    def test_with_a_mark_at_the_home(self):
        finder = Finder(0, 4)
        finder.hear(Y, 2, 3)
        self.assertEqual([finder.way(Y, count, False) for count in (-1, 2, 3, 4)], [("go", 2, 3), ("go", 2, 3), "park", "park"])

    def test_with_a_mark_here(self):
        for me in range(4):
            finder = Finder(me, 4)
            finder.hear(Y, me, 3)
            self.assertEqual(finder.way(Y, -1, False), "park" if me == 2 else ("go", 2, -1))
            for count in (0, 2, 3, 4):
                self.assertEqual(finder.way(Y, count, False), "park")

    def test_marks_of_other_objects(self):
        finder = Finder(0, 4)
        finder.hear(X, 3, 8)
        self.assertEqual(finder.way(Y, -1, False), ("go", 2, -1))
        self.assertEqual(finder.way(Y, 0, False), "park")

    def test_one_place(self):
        finder = Finder(0, 1)
        self.assertEqual(finder.way(Y, -1, False), "park")
        finder.hear(Y, 0, 2)
        self.assertEqual(finder.way(Y, -1, False), "park")


CALL = ("call", X, 3, (1,), 0, (), "get", (), (0, 0))
RETURN = ("return", Y, -1, (1,), 0, 5, (0, 0))


class Parking(unittest.TestCase):
    def test_park_and_unpark(self):
        finder = Finder(1, 3)
        self.assertEqual((finder.parked(), finder.unpark(X)), ((), []))
        bodies = [CALL, please(Y, 2), please(X, 1), RETURN, please(X, 0), please(X, 1), CALL]
        for k, body in enumerate(bodies):
            self.assertIsNone(finder.park(body))
            self.assertEqual(finder.parked(), tuple(bodies[:k + 1]))
        self.assertEqual(finder.unpark(((), 1)), [])
        self.assertEqual(finder.image(), ((), tuple(bodies)))
        self.assertEqual(finder.unpark(X), [CALL, please(X, 1), please(X, 0), please(X, 1), CALL])
        self.assertEqual(finder.parked(), (please(Y, 2), RETURN))
        self.assertEqual(finder.unpark(X), [])
        finder.park(CALL)
        self.assertEqual(finder.parked(), (please(Y, 2), RETURN, CALL))
        self.assertEqual(finder.unpark(Y), [please(Y, 2), RETURN])
        self.assertEqual(finder.image(), ((), (CALL,)))

    def test_the_list_may_be_changed(self):
        finder = Finder(1, 3)
        finder.park(CALL)
        finder.park(RETURN)
        finder.unpark(X).append(please(X, 0))
        finder.unpark(((7,), 7)).append(please(X, 0))
        self.assertEqual(finder.parked(), (RETURN,))
        finder.unpark(Y).clear()
        self.assertEqual(finder.unpark(Y), [])

    def test_other_bodies(self):
        finder = Finder(1, 3)
        finder.park(CALL)
        for body in (("at", X, 1, 7), ("carry", ((X, "start", (), (), 0),)), ("stop", 1, 1), ("told", 1, 1, 2, ()),
                     ("drop", 1, (X,)), ("ack", 1, ())):
            with self.assertRaises(NotAllowed, msg=body):
                finder.park(body)
        self.assertEqual(finder.parked(), (CALL,))

    def test_image(self):
        finder = Finder(1, 3)
        self.assertEqual(finder.image(), ((), ()))
        for name in (((2,), 0), Y, ((), 10), X, ((), 9)):
            finder.hear(name, 2, 4)
        finder.park(RETURN)
        finder.park(CALL)
        self.assertEqual(finder.image(), (
            ((X, 2, 4), (((), 9), 2, 4), (((), 10), 2, 4), (Y, 2, 4), (((2,), 0), 2, 4)), (RETURN, CALL)))

    def test_copy(self):
        changes = (
            lambda finder: finder.hear(X, 1, 7), lambda finder: finder.hear(Y, 1, 7), lambda finder: finder.forget(X),
            lambda finder: finder.park(please(X, 5)), lambda finder: finder.unpark(Y),
        )
        for change in changes:
            finder = Finder(1, 3)
            finder.hear(X, 2, 5)
            finder.park(RETURN)
            before = finder.image()
            twin = finder.copy()
            self.assertIsInstance(twin, Finder)
            self.assertEqual(twin.image(), before)
            change(twin)
            changed = twin.image()
            self.assertEqual(finder.image(), before)
            self.assertNotEqual(changed, before)
            twin = finder.copy()
            change(finder)
            self.assertEqual((finder.image(), twin.image()), (changed, before))

    def test_a_copy_is_at_the_same_place(self):
        twin = Finder(2, 4).copy()
        self.assertEqual(twin.way(Y, -1, False), "park")
        with self.assertRaises(NotAllowed):
            twin.hear(Y, 4, 1)
        twin.hear(Y, 3, 1)
        self.assertEqual(twin.mark(Y), (3, 1))


class Moving:
    """An object that is carried between places, with the bodies that are for it and the news of it under way."""

    def __init__(self, places, name, seed):
        self.random = random.Random(seed)
        self.places = places
        self.name = name
        self.finders = [Finder(me, places) for me in range(places)]
        self.count = 0
        self.at = self.random.randrange(places)
        self.places_of = [self.at]
        self.under_way = []
        self.ways = {}
        self.met = {}
        self.bodies = 0
        self.announce(self.at, self.at)

    def announce(self, me, at):
        self.finders[me].hear(self.name, at, self.count)
        home = home_of(self.name, self.places)
        if home not in (me, at):
            self.under_way.append((home, ("at", at, self.count)))

    def body(self):
        """A new body, of which the number is the goal; it begins at any place."""
        self.bodies += 1
        self.ways[self.bodies] = []
        self.arrive(self.random.randrange(self.places), please(self.name, -1, self.bodies))

    def arrive(self, me, body):
        way = self.finders[me].way(self.name, count_of(body), self.at == me)
        if way == "here":
            self.met[body[3]] = True
        elif way == "park":
            self.finders[me].park(body)
        else:
            self.ways[body[3]].append((count_of(body), way[2], way[1]))
            self.under_way.append((way[1], with_count(body, way[2])))

    def again(self, me):
        for body in self.finders[me].unpark(self.name):
            self.arrive(me, body)

    def carry(self):
        if self.at is not None:
            me = self.at
            goal = self.random.choice([place for place in range(self.places) if place != me])
            self.at = None
            self.count += 1
            self.places_of.append(goal)
            self.announce(me, goal)
            self.under_way.append((goal, ("carry",)))

    def deliver(self):
        me, body = self.under_way.pop(self.random.randrange(len(self.under_way)))
        if body[0] == "please":
            self.arrive(me, body)
        elif body[0] == "at":
            self.finders[me].hear(self.name, body[1], body[2])
            self.again(me)
        else:
            self.at = me
            self.finders[me].hear(self.name, me, self.count)
            self.again(me)

    def waits_rightly(self, me, body):
        """Says whether the bundle is still to come with the count of a parked body, or the home has no mark yet."""
        count = count_of(body)
        if count == -1:
            return home_of(self.name, self.places) == me and self.finders[me].mark(self.name) is None
        comes = self.count < count or (self.count == count and self.at is None)
        return comes and (count >= len(self.places_of) or self.places_of[count] == me)


class Theorem(unittest.TestCase):
    def test_bodies_get_to_the_object(self):
        gone_on = waited = 0
        for seed in range(300):
            chance = random.Random(seed)
            name = (tuple([chance.randrange(4) for _ in range(chance.randrange(3))]), chance.randrange(9))
            moving = Moving(chance.randrange(2, 6), name, seed)
            for _ in range(chance.randrange(80)):
                event = chance.choice([moving.body, moving.carry, moving.deliver, moving.deliver])
                if event != moving.deliver or moving.under_way:
                    event()
                for me, finder in enumerate(moving.finders):
                    for body in finder.parked():
                        self.assertTrue(moving.waits_rightly(me, body))
                        waited += 1
            while moving.under_way:
                moving.deliver()
            self.assertEqual(len(moving.met), moving.bodies)
            for finder in moving.finders:
                self.assertEqual(finder.parked(), ())
            for steps in moving.ways.values():
                home = [step for step in steps if step[1] == -1]
                self.assertTrue(len(home) <= 1 and home == steps[:len(home)], steps)
                for before, behind, _ in steps[len(home):]:
                    self.assertGreater(behind, before)
                self.assertLessEqual(len(steps), moving.count + 2)
                gone_on += len(steps)
        self.assertGreater(gone_on, 1000)
        self.assertGreater(waited, 100)


if __name__ == "__main__":
    unittest.main()
