"""What holds of the worlds of all courses, tried with drawn ones: the theorems about places, moves and pictures."""

import random
import unittest

from portage.compiler import row_of
from portage.errors import NotAllowed
from portage.picture import look, picture, replayed, under_way
from portage.place import Place
from portage.plain import begin, ready, run
from portage.trim import reached, trim
from portage.world import World
from tests.courses import CALM, GATHERING, MOVING, WILD, Course, images
from tests.programs import COUNTER, FAULTS, LEAVING, ROVING, SWARM, compiled

IMAGES = images()


def bodies_of(world, word):
    """The bodies of this word that are under way or parked in kept states."""
    parked = [body for p in range(world.places()) for body in world.kept(p).parked()]
    return [body for body in [letter[3] for letter in under_way(world)] + parked if body[0] == word]


class OnePlace(unittest.TestCase):
    def test_as_the_plain_machine(self):
        """Work at one place alone, by any order."""
        for seed, image in enumerate(IMAGES):
            chance = random.Random(seed)
            place = World(image, 1).present(0)
            state = begin(image)
            order = []
            while len(order) < 250 and place.ready():
                self.assertEqual(place.ready(), ready(state))
                process = chance.choice(place.ready())
                place.work(process)
                order.append(process)
                state = run(image, state, [process])
                self.assertEqual(tuple([one[:3] for one in place.bundles()]), state[0])
                self.assertEqual(place.prints(), state[2])
            self.assertEqual(place.burst(), tuple(order))
            done = [(row[0], row[1], row[2][1]) for row in state[1] if row[2][0] == "done"]
            self.assertEqual(place.ended(), tuple(done))
            self.assertEqual((place.parked(), place.outbox()), ((), ()))
            found = [(row[0], row[1], one[0], row[2]) for one in place.bundles() for row in one[3]]
            expected = [(row[0], depth) + level for row in state[1] for depth, level in enumerate(row[3])]
            self.assertEqual(sorted(found), sorted(expected))


class Pictures(unittest.TestCase):
    def course(self, image, places, seed, weights, many):
        """A drawn course; behind each event the picture is what the plain machine has."""
        course = Course(image, places, seed, weights)
        for _ in range(many):
            event = course.several(8)
            if event is not None:
                self.check(course)
        return course

    def check(self, course):
        found, expected = picture(course.world), course.state()
        if "gather" in course.weights:
            found, expected = trim(found), trim(expected)
        self.assertEqual(found, expected, course.events)
        self.assertEqual(look(course.world), [], course.events)

    def test_without_rounds(self):
        met = {}
        steps = 0
        for seed, image in enumerate(IMAGES[:MOVING] * 8 + IMAGES[MOVING:]):
            course = self.course(image, seed % 4 + 1, seed, CALM if seed % 3 == 0 else WILD, 110)
            self.assertEqual(replayed(course.world), course.state())
            steps += course.steps
            for event in course.events:
                met[event[0]] = met.get(event[0], 0) + 1
        self.assertGreater(min(met.values()), 100, met)
        self.assertEqual(sorted(met), ["commit", "deliver", "fall", "push", "send", "work"])
        self.assertGreater(steps, 2000)

    def test_with_rounds(self):
        met = {}
        dropped = 0
        for seed, image in enumerate(IMAGES[:MOVING] * 8 + IMAGES[MOVING:]):
            course = self.course(image, seed % 4 + 1, seed + 1000, GATHERING, 250)
            dropped += len(course.state()[0]) - len(picture(course.world)[0])
            for event in course.events:
                met[event[0]] = met.get(event[0], 0) + 1
        self.assertGreater(met["gather"], 100, met)
        self.assertGreater(dropped, 20)

    def test_what_is_met(self):
        """The courses have letters of all kinds under way, processes with several frames at several places, and more."""
        met = {}
        for seed in range(30):
            course = Course(IMAGES[seed % MOVING], seed % 3 + 2, seed + 50, WILD)
            for _ in range(300):
                course.several(8)
                for letter in under_way(course.world):
                    met[letter[3][0]] = met.get(letter[3][0], 0) + 1
                    if letter[3][0] in ("call", "return", "please") and letter[3][2] > 0:
                        met["further"] = met.get("further", 0) + 1
                    if letter[3][0] == "carry" and len(letter[3][1]) > 1:
                        met["together"] = met.get("together", 0) + 1
                for p in range(course.world.places()):
                    for body in course.world.kept(p).parked():
                        met["parked " + body[0]] = met.get("parked " + body[0], 0) + 1
                    for one in course.world.kept(p).bundles():
                        if one[4] > 1:
                            met["counts"] = met.get("counts", 0) + 1
        for word in ("call", "return", "please", "carry", "at", "further", "together", "counts", "parked call", "parked please"):
            self.assertGreater(met.get(word, 0), 3, (word, met))


class Numbers(unittest.TestCase):
    def test_no_operation_is_missing(self):
        """In good programs an operation is never missing when it runs, wherever it runs; and there are no bad numbers."""
        words = {}
        for seed, image in enumerate(IMAGES):
            course = Course(image, 3, seed + 300, WILD)
            for _ in range(150):
                course.several(20)
            for p in range(3):
                for one in course.world.present(p).bundles():
                    for _, _, inner, _, _, word in one[3]:
                        self.assertLessEqual(inner[1], len(row_of(image, one[1], inner[0])[3]))
                        words[word] = words.get(word, 0) + 1
        self.assertEqual(sorted(words), ["", "large", "nil"])

    def test_what_cannot_happen_changes_nothing(self):
        for seed in range(8):
            course = Course(IMAGES[seed], 2, seed, GATHERING)
            for _ in range(100):
                course.step()
            world = course.world
            before = ([world.present(p).state() for p in range(2)], [world.kept(p).state() for p in range(2)], world.air(),
                      world.order(), world.prints())
            chance = random.Random(seed)
            numbers = (-10 ** 12, -3, -2, -1, 0, 1, 2, 3, len(world.air()), 10 ** 12)
            refused = 0
            for _ in range(300):
                p, q = chance.choice(numbers), chance.choice(numbers)
                process = tuple([chance.choice(numbers) for _ in range(chance.randrange(3))])
                word = chance.choice(["work", "commit", "send", "deliver", "fall", "push", "gather"])
                event = {"work": (word, p, process), "push": (word, p, (process, chance.choice(numbers)), q),
                         "gather": (word,)}.get(word, (word, p))
                can = world.can(event)
                twin = world.copy()
                if can:
                    twin.do(event)
                else:
                    refused += 1
                    with self.assertRaises(NotAllowed):
                        twin.do(event)
                    twin_state = ([twin.present(p).state() for p in range(2)], [twin.kept(p).state() for p in range(2)],
                                  twin.air(), twin.order(), twin.prints())
                    self.assertEqual(twin_state, before)
            self.assertGreater(refused, 100)


class Moves(unittest.TestCase):
    def test_no_move_changes_the_picture(self):
        """Pushes, and letters that are taken, with commits: nothing but work changes the picture."""
        pushed = 0
        for seed in range(40):
            course = Course(IMAGES[seed % (2 * MOVING)], 3, seed + 200, WILD)
            for _ in range(80):
                course.several(4)
            world = course.world
            world.play([("commit", p) for p in range(3)])
            expected = picture(world)
            course.weights = {"push": 20, "deliver": 30, "send": 10, "commit": 14, "fall": 1}
            for _ in range(80):
                event = course.step()
                pushed += event is not None and event[0] == "push"
                self.assertEqual(picture(world), expected)
                self.assertEqual(look(world), [])
        self.assertGreater(pushed, 100)

    def test_bodies_get_to_objects_that_move(self):
        """When all is delivered, each call and each return is in its bundle, and nothing is parked."""
        waited = 0
        for seed in range(80):
            places = seed % 4 + 2
            course = Course(IMAGES[seed % MOVING], places, seed + 700, {"work": 40, "commit": 14, "send": 10, "deliver": 25, "push": 25})
            for _ in range(120):
                course.several(10)
            world = course.world
            world.play([("commit", p) for p in range(places)])
            expected = picture(world)
            waited += len(bodies_of(world, "call")) + len(bodies_of(world, "return")) + len(bodies_of(world, "please"))
            self.deliver_all(world, course.random)
            self.assertEqual(picture(world), expected)
            frames = 0
            holders = {}
            for p in range(places):
                place = world.kept(p)
                self.assertEqual((place.parked(), place.outbox()), ((), ()))
                for one in place.bundles():
                    frames += len(one[3])
                    for process, depth, _, _, token, _ in one[3]:
                        if token is not None:
                            holders[process] = depth
            self.assertEqual(frames, sum([len(row[3]) for row in expected[1]]))
            self.assertEqual(holders, {row[0]: len(row[3]) - 1 for row in expected[1] if row[3]})
        self.assertGreater(waited, 60)

    def deliver_all(self, world, chance):
        """Sends, delivers in any order, and commits, until no outbox has a letter."""
        for _ in range(60):
            if all([world.kept(p).outbox() == () for p in range(world.places())]):
                return
            before = len(world.air())
            world.play([("send", p) for p in range(world.places())])
            letters = list(range(before, len(world.air())))
            chance.shuffle(letters)
            world.play([("deliver", k) for k in letters] + [("commit", p) for p in range(world.places())])
        self.fail("the letters go on for ever")


class Orders(unittest.TestCase):
    def test_steps_of_different_places(self):
        """Works at different places can be made in either order, with the same objects and processes behind them."""
        pairs = 0
        for seed in range(40):
            course = Course(IMAGES[seed % MOVING], 3, seed + 400, WILD)
            for _ in range(150):
                course.several(10)
                ready_at = [course.world.present(p).ready() for p in range(3)]
                busy = [p for p in range(3) if ready_at[p]]
                if len(busy) > 1 and course.random.randrange(3) == 0:
                    one, other = [("work", p, ready_at[p][0]) for p in busy[:2]]
                    first, second = course.world.copy(), course.world.copy()
                    ends = [("commit", p) for p in range(3)]
                    first.play([one, other] + ends)
                    second.play([other, one] + ends[::-1])
                    self.assertEqual(picture(first)[:2], picture(second)[:2])
                    self.assertEqual(picture(first), replayed(first))
                    self.assertEqual(picture(second), replayed(second))
                    pairs += 1
        self.assertGreater(pairs, 30)

    def test_trimmed_pictures_go_on_alike(self):
        """What is not reached once is never reached again."""
        for seed in range(20):
            course = Course(IMAGES[seed], 3, seed + 500, WILD)
            for _ in range(60):
                course.several(4)
            image = course.world.image()
            trimmed = trim(picture(course.world))
            many = len(course.world.order())
            gone = [row[0] for row in picture(course.world)[0] if row[0] not in reached(trimmed)]
            for _ in range(60):
                course.several(4)
            later = picture(course.world)
            self.assertEqual(trim(run(image, trimmed, course.world.order()[many:])), trim(later))
            self.assertEqual([name for name in reached(later) if name in gone], [])


class Homes(unittest.TestCase):
    def test_a_counter(self):
        """The programs come to the same end on any number of places, whatever the courses."""
        for text, ends in ((COUNTER, {(("done", 12),)}), (FAULTS, None), (LEAVING, None), (ROVING, None), (SWARM, None)):
            image = compiled(text)
            for seed in range(8):
                course = Course(image, seed % 4 + 1, seed, WILD)
                while course.world.order() == () or any([row[2] == ("run",) for row in course.state()[1]]):
                    course.several(6)
                    self.assertLess(len(course.events), 20000)
                self.assertEqual(trim(picture(course.world)), trim(course.state()))
                if ends is not None:
                    self.assertIn(tuple([row[2] for row in course.state()[1]]), ends)
                self.assertIsInstance(course.world.present(0), Place)


if __name__ == "__main__":
    unittest.main()
