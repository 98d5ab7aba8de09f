import random
import unittest

from portage.errors import NotAllowed
from portage.post import Post


def body(k):
    return ("stop", k, 0)


class Giving(unittest.TestCase):
    def test_examples(self):
        post = Post(0)
        given = (post.give(1, ("stop", 4, 0)), post.give(1, ("stop", 5, 0)), post.give(2, ("stop", 6, 0)))
        self.assertEqual(given, (0, 1, 0))
        found = (post.take((1, 0, 2, ("stop", 7, 0))), post.take((1, 0, 2, ("stop", 7, 0))),
                 post.take((1, 0, 0, ("stop", 8, 0))))
        self.assertEqual(found, (True, False, True))
        self.assertEqual(post.answers(), ((0, 1, -1, ('ack', 1, (2,))),))
        self.assertIs(post.take((1, 0, -1, ("ack", 0, (1,)))), False)
        self.assertEqual(post.image(), (
            ((0, 1, 0, ('stop', 4, 0)), (0, 2, 0, ('stop', 6, 0))), ((1, 2), (2, 1)), ((1, 1, (2,)),)))

    def test_empty(self):
        post = Post(3)
        self.assertEqual((post.outbox(), post.answers(), post.image()), ((), (), ((), (), ())))
        for other in (0, 1, 7):
            self.assertEqual(post.next_number(other), 0)
            self.assertEqual(post.taken(other), (0, ()))
            self.assertIs(post.is_taken(other, 0), False)

    def test_numbers_for_each_place(self):
        post = Post(2)
        goals = [1, 0, 1, 7, 1, 0, 3]
        self.assertEqual([post.give(goal, body(k)) for k, goal in enumerate(goals)], [0, 0, 1, 0, 2, 1, 0])
        self.assertEqual([post.next_number(goal) for goal in (0, 1, 2, 3, 7, 9)], [2, 3, 0, 1, 1, 0])
        self.assertEqual(post.outbox(), (
            (2, 1, 0, body(0)), (2, 0, 0, body(1)), (2, 1, 1, body(2)), (2, 7, 0, body(3)), (2, 1, 2, body(4)),
            (2, 0, 1, body(5)), (2, 3, 0, body(6))))
        self.assertEqual(post.image(), (post.outbox(), ((0, 2), (1, 3), (3, 1), (7, 1)), ()))

    def test_not_to_itself(self):
        for me in (0, 3):
            post = Post(me)
            post.give(1, body(1))
            before = post.image()
            for other in (me, -1, -5):
                with self.assertRaises(NotAllowed):
                    post.give(other, body(2))
            self.assertEqual(post.image(), before)


class Taking(unittest.TestCase):
    def test_in_order(self):
        post = Post(1)
        for k in range(5):
            self.assertIs(post.is_taken(0, k), False)
            self.assertIs(post.take((0, 1, k, body(k))), True)
            self.assertIs(post.take((0, 1, k, body(k))), False)
            self.assertIs(post.is_taken(0, k), True)
            self.assertEqual(post.taken(0), (k + 1, ()))

    def test_gaps(self):
        post = Post(1)
        for number, told in ((3, (0, (3,))), (1, (0, (1, 3))), (9, (0, (1, 3, 9))), (0, (2, (3, 9))), (5, (2, (3, 5, 9))),
                             (2, (4, (5, 9))), (4, (6, (9,))), (10, (6, (9, 10))), (8, (6, (8, 9, 10))),
                             (7, (6, (7, 8, 9, 10))), (6, (11, ()))):
            self.assertIs(post.take((0, 1, number, body(0))), True)
            self.assertEqual(post.taken(0), told)
            self.assertIs(post.take((0, 1, number, body(0))), False)
            self.assertEqual(post.taken(0), told)
            for k in range(-3, 15):
                self.assertIs(post.is_taken(0, k), 0 <= k < told[0] or k in told[1])

    def test_each_place_by_itself(self):
        post = Post(1)
        for sender, number in ((7, 0), (2, 1), (0, 0), (2, 3)):
            self.assertIs(post.take((sender, 1, number, body(0))), True)
        self.assertEqual([post.taken(other) for other in (0, 2, 3, 7)], [(1, ()), (0, (1, 3)), (0, ()), (1, ())])
        self.assertIs(post.take((2, 1, 0, body(0))), True)
        self.assertEqual([post.taken(other) for other in (0, 2, 3, 7)], [(1, ()), (2, (3,)), (0, ()), (1, ())])
        self.assertEqual(post.image(), ((), (), ((0, 1, ()), (2, 2, (3,)), (7, 1, ()))))

    def test_any_order(self):
        for seed in range(50):
            chance = random.Random(seed)
            post = Post(0)
            seen = {}
            for _ in range(60):
                sender, number = chance.choice([1, 2]), chance.randrange(20)
                self.assertIs(post.take((sender, 0, number, body(number))), (sender, number) not in seen)
                seen[(sender, number)] = True
                for other in (1, 2):
                    low, beyond = post.taken(other)
                    self.assertNotIn((other, low), seen)
                    self.assertEqual(list(range(low)) + list(beyond), sorted([k for place, k in seen if place == other]))

    def test_not_here(self):
        post = Post(1)
        post.give(0, body(0))
        post.take((0, 1, 4, body(1)))
        before = post.image()
        for letter in ((0, 2, 0, body(2)), (0, 0, 0, body(2)), (1, 1, 0, body(2)), (1, 0, 0, body(2)), (1, 2, 5, body(2)),
                       (0, 2, -1, ("ack", 5, ())), (1, 1, -1, ("ack", 5, ())), (1, 0, -1, ("ack", 5, ()))):
            with self.assertRaises(NotAllowed, msg=letter):
                post.take(letter)
            self.assertEqual(post.image(), before)


class Answers(unittest.TestCase):
    def test_answers(self):
        post = Post(4)
        post.give(3, body(0))
        self.assertEqual(post.answers(), ())
        for sender, number in ((7, 0), (0, 2), (5, 1), (7, 1), (5, 0)):
            post.take((sender, 4, number, body(0)))
        self.assertEqual(post.answers(), (
            (4, 0, -1, ("ack", 0, (2,))), (4, 5, -1, ("ack", 2, ())), (4, 7, -1, ("ack", 2, ()))))

    def test_acknowledgements(self):
        post = Post(0)
        for k in range(6):
            post.give(1, body(k))
            post.give(2, body(10 + k))
        letters = post.outbox()
        self.assertIs(post.take((1, 0, -1, ("ack", 2, (3, 5)))), False)
        self.assertEqual(post.outbox(), tuple([row for row in letters if row[1] == 2 or row[2] in (2, 4)]))
        self.assertEqual((post.taken(1), post.answers()), ((0, ()), ()))
        self.assertEqual((post.next_number(1), post.next_number(2)), (6, 6))
        left = post.outbox()
        for old in (("ack", 0, ()), ("ack", 0, (1,)), ("ack", 1, (3,)), ("ack", 2, (3, 5))):
            self.assertIs(post.take((1, 0, -1, old)), False)
            self.assertEqual(post.outbox(), left)
        self.assertIs(post.take((3, 0, -1, ("ack", 9, ()))), False)
        self.assertEqual(post.outbox(), left)
        self.assertIs(post.take((2, 0, -1, ("ack", 6, ()))), False)
        self.assertEqual(post.outbox(), ((0, 1, 2, body(2)), (0, 1, 4, body(4))))
        self.assertIs(post.take((1, 0, -1, ("ack", 5, ()))), False)
        self.assertEqual(post.outbox(), ())
        self.assertEqual(post.give(1, body(7)), 6)
        self.assertEqual(post.image(), (((0, 1, 6, body(7)),), ((1, 7), (2, 6)), ()))

    def test_what_comes_out_is_kept_by_no_one(self):
        post = Post(0)
        post.give(1, body(0))
        post.take((1, 0, 3, body(0)))
        for value in (post.outbox(), post.answers(), post.image(), post.taken(1)):
            self.assertIsInstance(value, tuple)


class Copies(unittest.TestCase):
    def made(self):
        post = Post(0)
        post.give(1, body(0))
        post.give(2, body(1))
        post.take((1, 0, 3, body(2)))
        return post

    def test_copy(self):
        changes = (
            lambda post: post.give(1, body(3)), lambda post: post.give(5, body(3)),
            lambda post: post.take((1, 0, 0, body(3))), lambda post: post.take((2, 0, 0, body(3))),
            lambda post: post.take((1, 0, -1, ("ack", 1, ()))),
        )
        before = self.made().image()
        for change in changes:
            post = self.made()
            twin = post.copy()
            self.assertIsInstance(twin, Post)
            self.assertEqual(twin.image(), before)
            change(twin)
            self.assertEqual(post.image(), before)
            changed = twin.image()
            self.assertNotEqual(changed, before)
            self.assertEqual([letter[0] for letter in twin.answers() + twin.outbox() if letter[0] != 0], [])
            twin = post.copy()
            change(post)
            self.assertEqual((post.image(), twin.image()), (changed, before))

    def test_a_copy_is_of_the_same_place(self):
        twin = Post(2).copy()
        with self.assertRaises(NotAllowed):
            twin.give(2, body(0))
        twin.give(0, body(0))
        self.assertEqual(twin.outbox(), ((2, 0, 0, body(0)),))


class Places:
    """Posts with kept and present states, as places have them, and letters in the air."""

    def __init__(self, many, seed):
        self.random = random.Random(seed)
        self.many = many
        self.present = [Post(me) for me in range(many)]
        self.kept = [Post(me) for me in range(many)]
        # The letters that were new in the present and in the kept states.
        self.now = [[] for _ in range(many)]
        self.log = [[] for _ in range(many)]
        self.air = []
        self.ever = {}
        self.bodies = 0

    def give(self, me):
        other = self.random.choice([k for k in range(self.many) if k != me])
        self.bodies += 1
        self.present[me].give(other, body(self.bodies))

    def commit(self, me):
        self.kept[me] = self.present[me].copy()
        self.log[me] = list(self.now[me])
        for letter in self.kept[me].outbox():
            self.ever[letter] = True

    def fall(self, me):
        self.present[me] = self.kept[me].copy()
        self.now[me] = list(self.log[me])

    def send(self, me):
        self.air.extend(self.kept[me].outbox() + self.kept[me].answers())

    def deliver(self, letter):
        if self.present[letter[1]].take(letter):
            self.now[letter[1]].append(letter)

    def event(self):
        me = self.random.randrange(self.many)
        way = self.random.choice(["give", "give", "commit", "commit", "send", "send", "fall"] + ["deliver"] * 6)
        if way == "give":
            self.give(me)
        elif way == "commit":
            self.commit(me)
        elif way == "send":
            self.send(me)
        elif way == "fall":
            self.fall(me)
        elif self.air:
            self.deliver(self.random.choice(self.air[-30:] if self.random.randrange(2) else self.air))

    def settle(self):
        """Sends, delivers and commits all, until no outbox has a letter; returns how often."""
        for me in range(self.many):
            self.commit(me)
        for rounds in range(10):
            if all([post.outbox() == () for post in self.kept]):
                return rounds
            for me in range(self.many):
                self.send(me)
                self.commit(me)
            letters, self.air = self.air, []
            for letter in letters:
                self.deliver(letter)
            for me in range(self.many):
                self.commit(me)
        return None


class Theorem(unittest.TestCase):
    def check(self, places):
        for letter in places.ever:
            sender, goal, number, _ = letter
            taken = places.kept[goal].is_taken(sender, number)
            self.assertTrue(taken or letter in places.kept[sender].outbox())
            self.assertEqual(places.log[goal].count(letter), 1 if taken else 0)

    def test_nothing_is_lost_or_doubled(self):
        for many in (2, 3):
            for seed in range(40):
                places = Places(many, seed)
                for _ in range(150):
                    places.event()
                    self.check(places)
                self.assertIsNotNone(places.settle())
                self.check(places)
                self.assertEqual(sorted([letter for log in places.log for letter in log]), sorted(places.ever))
                for me in range(many):
                    self.assertEqual(places.present[me].outbox(), ())
                    for other in range(many):
                        sent = places.kept[other].next_number(me)
                        self.assertEqual(places.kept[me].taken(other), (sent, ()))


if __name__ == "__main__":
    unittest.main()
