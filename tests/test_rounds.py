"""Rounds of collecting, from their beginning to their end: just what no process reaches is dropped."""

import unittest

from portage.picture import look, picture, replayed
from portage.settle import is_quiet, settle
from portage.trim import reached, trim
from portage.world import World
from tests.courses import GATHERING, Course, images
from tests.programs import CHURN, ENDLESS, FAULTS, LEAVING, SHORT, compiled

IMAGES = images()
# The program goes on behind what it leaves, so that a round has something to do and something to keep.
LEFT = """
interface Link { join(Link): int; }
maker Node(n: int) {
  field next: Link;
  op join(other: Link): int { next = other; return n; }
}
start {
  let a: Link = new Node(1);
  let b: Link = new Node(2);
  let c: Link = new Node(3);
  let d: Link = new Node(4);
  a.join(b);
  b.join(a);
  c.join(d);
  move a to 1;
  move c to 2;
  a = nil;
  b = nil;
  d = nil;
  print 1;
  let k: int = 0;
  while k < 100 { k = k + 1; }
  return c.join(nil);
}
"""


def names(state):
    return [row[0] for row in state[0]]


def unreached(state):
    found = reached(state)
    return [name for name in names(state) if name not in found]


def exchange(world, lost=()):
    """Commits, sends and delivers all, but for the letters to these places."""
    places = range(world.places())
    before = len(world.air())
    world.play([("commit", p) for p in places] + [("send", p) for p in places])
    for k in range(before, len(world.air())):
        if world.air()[k][1] not in lost:
            world.do(("deliver", k))
    world.play([("commit", p) for p in places])


def stopped(world):
    return [world.present(p).stopped() for p in range(world.places())]


class Calm(unittest.TestCase):
    def running(self, places, rounds=3):
        """A world with something that nobody reaches, whose process goes on."""
        world = World(compiled(LEFT), places)
        settle(world, rounds)
        self.assertEqual(world.prints(), (((), 1),))
        self.assertEqual(unreached(picture(world)), [((), 1), ((), 2)])
        return world

    def test_a_round(self):
        for places in range(1, 9):
            world = self.running(places, 6)
            before = picture(world)
            world.do(("gather",))
            if places > 1:
                self.assertEqual(stopped(world), [1] + [0] * (places - 1))
                exchange(world)
                self.assertEqual(stopped(world), [1] * places)
                self.assertEqual(picture(world), before)
                exchange(world)
                # Place 0 has looked; the others do not know yet.
                self.assertEqual(stopped(world), [0] + [1] * (places - 1))
                exchange(world)
            world.do(("commit", 0))
            self.assertEqual(stopped(world), [0] * places)
            self.assertEqual(world.present(0).notes(), (1, 0, ()))
            self.assertEqual(picture(world), trim(before))
            self.assertEqual(names(picture(world)), [((), 0), ((), 3), ((), 4)])
            self.assertEqual(trim(replayed(world)), picture(world))
            self.assertEqual(look(world), [])
            for p in range(places):
                marks = [mark[0] for mark in world.kept(p).state()[2][0]]
                self.assertEqual([name for name in marks if name in unreached(before)], [])
            settle(world, 60)
            self.assertTrue(is_quiet(world))
            self.assertEqual(picture(world)[1][0][2], ("done", 3))

    def test_rounds_count_on(self):
        world = World(compiled(LEAVING), 3)
        for turn in range(1, 9):
            settle(world, 1)
            world.do(("gather",))
            self.assertEqual(world.present(0).notes()[:2], (turn, 1))
            while any(stopped(world)):
                exchange(world)
            self.assertEqual(world.present(0).notes(), (turn, 0, ()))
            # The process at other places may have worked in front of its stop, not behind it.
            self.assertEqual(trim(picture(world)), trim(replayed(world)))
            self.assertEqual(look(world), [])

    def test_at_the_end_nothing_is_left(self):
        for text, left in ((LEAVING, []), (SHORT, []), (LEFT, []), (FAULTS, [((), 1)]), (ENDLESS, [((), 0)])):
            for places in (1, 2, 5):
                world = World(compiled(text), places)
                settle(world, 40)
                world.do(("gather",))
                for _ in range(5):
                    exchange(world)
                self.assertEqual(stopped(world), [0] * places)
                self.assertEqual(names(picture(world)), left, (text, places))
                self.assertEqual(trim(picture(world)), trim(replayed(world)))

    def test_settling_ends_rounds(self):
        for places in (2, 4):
            world = self.running(places)
            world.do(("gather",))
            settle(world, 60)
            self.assertTrue(is_quiet(world))
            self.assertEqual(picture(world)[1][0][2], ("done", 3))
            self.assertEqual(names(picture(world)), [((), 0), ((), 3), ((), 4)])
            world.do(("gather",))
            settle(world, 60)
            self.assertEqual((names(picture(world)), stopped(world)), ([], [0] * places))

    def test_lost_letters_and_falls(self):
        for lost in range(4):
            world = self.running(4)
            before = picture(world)
            world.do(("gather",))
            for turn in range(16):
                exchange(world, [lost] if turn % 3 else [])
                world.play([("fall", p) for p in range(4)])
                self.assertEqual(trim(picture(world)), trim(before))
                self.assertEqual(look(world), [])
            self.assertEqual(stopped(world), [0] * 4)
            self.assertEqual(picture(world), trim(before))

    def test_doubled_letters(self):
        world = self.running(3)
        before = picture(world)
        world.do(("gather",))
        for _ in range(6):
            exchange(world)
            world.play([("deliver", k) for k in reversed(range(len(world.air())))])
        self.assertEqual(stopped(world), [0] * 3)
        self.assertEqual(picture(world), trim(before))
        self.assertEqual(world.present(0).notes(), (1, 0, ()))

    def test_a_fall_before_the_round_is_kept(self):
        world = self.running(3)
        kept = world.kept(0).state()
        world.play([("gather",), ("fall", 0)])
        self.assertEqual(world.present(0).state(), kept)
        world.do(("gather",))
        self.assertEqual(world.present(0).notes(), (1, 1, ()))

    def test_a_working_letter_under_way(self):
        """As long as one is under way the reports do not agree; wave follows upon wave."""
        world = World(compiled(LEFT), 3)
        while not any([letter[3][0] == "carry" for letter in world.present(0).outbox()]):
            world.do(("work", 0, ()))
        world.do(("commit", 0))
        carry = [letter for letter in world.kept(0).outbox() if letter[3][0] == "carry"]
        goal = carry[0][1]
        world.do(("gather",))
        for wave in range(1, 5):
            self.assertEqual(world.present(0).notes(), (1, wave, ()))
            for _ in range(2):
                before = len(world.air())
                world.play([("commit", p) for p in range(3)] + [("send", p) for p in range(3)])
                for k in range(before, len(world.air())):
                    if world.air()[k] not in carry:
                        world.do(("deliver", k))
            self.assertNotEqual(stopped(world), [0] * 3)
            self.assertFalse(world.present(goal).has_taken(0, carry[0][2]))
        exchange(world)
        for _ in range(8):
            exchange(world)
        self.assertEqual(stopped(world), [0] * 3)
        self.assertGreater(world.present(0).notes()[0], 0)
        self.assertEqual(picture(world), trim(replayed(world)))


class Watch:
    """A drawn course in which each look of place 0 is compared with the picture."""

    def __init__(self, test, image, places, seed):
        self.test = test
        self.course = Course(image, places, seed, GATHERING)
        self.dropped = {}
        self.looks = 0

    def step(self):
        before = self.course.world.copy()
        rounds = [letter for letter in before.present(0).outbox() if letter[3][0] == "drop"]
        event = self.course.several(12)
        if event is not None and event[0] == "deliver":
            new = [letter for letter in self.course.world.present(0).outbox() if letter[3][0] == "drop" and letter not in rounds]
            if new:
                self.looked(before, [letter[3] for letter in new])

    def looked(self, world, bodies):
        """The names that are dropped are those that the picture of the world has and does not reach."""
        self.looks += 1
        self.test.assertEqual(bodies, [bodies[0]] * (world.places() - 1))
        found = picture(world)
        told = list(bodies[0][2])
        self.test.assertEqual(told, sorted(told))
        self.test.assertEqual([name for name in told if name in names(found)], unreached(found))
        for name in told:
            self.test.assertTrue(name in names(found) or name in self.dropped)
            self.dropped[name] = True

    def check(self):
        found, expected = trim(picture(self.course.world)), trim(self.course.state())
        self.test.assertEqual(found, expected)
        self.test.assertEqual(look(self.course.world), [])


class Wild(unittest.TestCase):
    def test_what_is_dropped(self):
        """Rounds among all else: falls, letters that are lost, doubled and overtaken."""
        looks = dropped = 0
        for seed in range(24):
            image = compiled((CHURN, LEAVING)[seed % 2]) if seed % 4 else IMAGES[seed]
            watch = Watch(self, image, seed % 3 + 2, seed)
            for turn in range(400):
                watch.step()
                if turn % 3 == 0:
                    watch.check()
            looks += watch.looks
            dropped += len(watch.dropped)
            self.calm(watch.course.world)
        self.assertGreater(looks, 30)
        self.assertGreater(dropped, 40)

    def calm(self, world):
        """Once all is delivered no place is stopped; and a last round leaves nothing but what is reached."""
        for _ in range(40):
            exchange(world)
        self.assertEqual(stopped(world), [0] * world.places())
        self.assertEqual(trim(picture(world)), trim(replayed(world)))
        world.do(("gather",))
        for _ in range(6):
            exchange(world)
        self.assertEqual(stopped(world), [0] * world.places())
        self.assertEqual(picture(world), trim(replayed(world)))


if __name__ == "__main__":
    unittest.main()
