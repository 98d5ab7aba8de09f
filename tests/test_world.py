import unittest

from portage import world as module
from portage.errors import NotAllowed
from portage.gather import start_round
from portage.micro import first_frame
from portage.place import Place
from portage.world import World
from tests.courses import GATHERING, Course
from tests.programs import COUNTER, FAULTS, LEAVING, ROVING, SHORT, compiled

START = ((), 0)
CELL = ((), 1)
IMAGE = compiled(COUNTER)


def everything(world):
    """All that a world tells of itself."""
    places = range(world.places())
    return ([world.present(p).state() for p in places], [world.kept(p).state() for p in places], world.air(), world.order(),
            world.prints(), world.image())


def played(*course, image=IMAGE, places=3):
    world = World(image, places)
    world.play(list(course))
    return world


def works(many, p=0, process=()):
    return [("work", p, process)] * many


class Beginning(unittest.TestCase):
    def test_numbers(self):
        self.assertEqual(module.MAX_PLACES, 8)
        for places in (0, 9, -1, 10 ** 12):
            with self.assertRaises(NotAllowed):
                World(IMAGE, places)
        for places in range(1, 9):
            self.assertEqual(World(IMAGE, places).places(), places)

    def test_beginning(self):
        for places in (1, 2, 8):
            for image in (IMAGE, compiled(SHORT)):
                world = World(image, places)
                bundle = (START, "start", (), (((), 0, first_frame(image, "start", "start", ()), (), (1, 0), ""),), 0)
                nothing = ((), ((), (), ()), ((), ()), (), (), (), 0, (), (), ())
                first = ((bundle,), ((), (), ()), (((START, 0, 0),), ()), (), (), (), 0, (), (), ())
                self.assertEqual(everything(world), ([first] + [nothing] * (places - 1), [first] + [nothing] * (places - 1),
                                                     (), (), (), image))
                for p in range(places):
                    for place in (world.present(p), world.kept(p)):
                        self.assertIsInstance(place, Place)
                        self.assertEqual((place.me(), place.places()), (p, places))
                self.assertEqual(world.present(0).ready(), [()])

    def test_locals_of_the_start(self):
        self.assertEqual(World(IMAGE, 1).present(0).bundles()[0][3][0][2], ("start", 0, (0,), ()))


class Events(unittest.TestCase):
    def check(self, world, event, change):
        """The event does what the change does to a list of all that the world has."""
        expected = list(everything(world))
        change(expected)
        self.assertIs(world.can(event), True)
        self.assertIsNone(world.do(event))
        self.assertEqual(everything(world), tuple(expected))

    def refuse(self, world, *events):
        before = everything(world)
        for event in events:
            self.assertIs(world.can(event), False, event)
            with self.assertRaises(NotAllowed):
                world.do(event)
            self.assertEqual(everything(world), before)

    def present(self, world, p, method, *arguments):
        """A change of the present state of a place alone."""
        place = world.present(p)
        getattr(place, method)(*arguments)

        def change(parts):
            parts[0][p] = place.state()
        return change

    def test_work(self):
        world = World(IMAGE, 2)
        for _ in range(8):
            self.check(world, ("work", 0, ()), self.present(world, 0, "work", ()))
        self.assertEqual(world.present(0).burst(), ((),) * 8)
        self.assertEqual((world.order(), world.kept(0).burst()), ((), ()))

    def test_no_work(self):
        world = played(*works(4), ("push", 0, START, 1), ("commit", 0), ("send", 0))
        self.refuse(world, ("work", 0, ()), ("work", 1, ()), ("work", 2, ()), ("work", 3, ()), ("work", -1, ()), ("work", -3, ()),
                    ("work", 10 ** 12, ()), ("work", 0, (0,)), ("work", 0, (5, 7)), ("work", 0, (-1,)))
        world.play([("deliver", k) for k in range(len(world.air()))])
        self.assertTrue(world.can(("work", 1, ())))
        self.refuse(world, ("work", 0, ()), ("work", -2, ()), ("work", 1, (0,)))
        world.do(("gather",))
        self.assertTrue(world.can(("work", 1, ())))
        world.play([("commit", 0), ("send", 0)] + [("deliver", k) for k in range(len(world.air()))])
        world.play([("deliver", k) for k in range(len(world.air()))])
        self.refuse(world, ("work", 1, ()))

    def test_no_work_at_the_end(self):
        world = played(*works(4), image=compiled(SHORT), places=1)
        self.assertEqual(world.present(0).ended(), (((), (1, 0), 5),))
        self.refuse(world, ("work", 0, ()))

    def test_commit(self):
        world = played(*works(2), image=compiled(SHORT), places=2)
        self.assertEqual((world.prints(), world.kept(0).ready()), ((), [()]))

        def change(parts):
            parts[0][0] = parts[0][0][:8] + ((), ())
            parts[1][0] = parts[0][0]
            parts[3] = ((), ())
            parts[4] = (((), 4),)
        self.check(world, ("commit", 0), change)
        self.check(world, ("commit", 0), lambda parts: None)
        self.check(world, ("commit", 1), lambda parts: None)
        world.play(works(2))

        def again(parts):
            parts[0][0] = parts[0][0][:8] + ((), ())
            parts[1][0] = parts[0][0]
            parts[3] = ((),) * 4
        self.check(world, ("commit", 0), again)
        self.refuse(world, ("commit", 2), ("commit", -1), ("commit", -2), ("commit", 10 ** 12))

    def test_the_order_of_commits(self):
        world = played(*works(5), ("work", 0, (0,)), ("work", 0, ()), image=compiled(FAULTS), places=2)
        self.assertEqual(world.order(), ())
        world.do(("commit", 0))
        self.assertEqual(world.order(), ((),) * 5 + ((0,), ()))

    def test_send(self):
        world = played(*works(5))
        self.check(world, ("send", 0), lambda parts: None)
        world.do(("commit", 0))
        news = world.kept(0).outbox()
        self.assertEqual([letter[3][0] for letter in news], ["at", "carry"])

        def change(parts):
            parts[2] = parts[2] + news
        self.check(world, ("send", 0), change)
        self.check(world, ("send", 0), change)
        world.play([("deliver", 0), ("deliver", 1)])
        # What has been taken, but not kept, is not acknowledged.
        self.check(world, ("send", 1), lambda parts: None)
        world.do(("commit", 1))
        answers = world.kept(1).answers()
        self.assertEqual(answers[0][3][0], "ack")
        self.assertEqual(world.kept(1).outbox(), ())

        def answer(parts):
            parts[2] = parts[2] + answers
        self.check(world, ("send", 1), answer)
        self.refuse(world, ("send", 3), ("send", -1), ("send", -3))

    def test_letters_before_acknowledgements(self):
        world = played(*works(5), ("commit", 0), ("send", 0), ("deliver", 0), ("deliver", 1), ("push", 1, CELL, 2), ("commit", 1),
                       ("send", 1))
        kept = world.kept(1)
        self.assertEqual(len(kept.outbox()), 1)
        self.assertEqual(len(kept.answers()), 1)
        self.assertEqual(world.air()[-2:], kept.outbox() + kept.answers())

    def test_deliver(self):
        world = played(*works(5), ("commit", 0), ("send", 0))
        self.assertEqual(len(world.air()), 2)
        letter = world.air()[1]
        self.assertEqual(letter[3][0], "carry")
        self.check(world, ("deliver", 1), self.present(world, 1, "take", letter))
        self.check(world, ("deliver", 1), lambda parts: None)
        self.check(world, ("deliver", 0), self.present(world, 1, "take", world.air()[0]))
        world.play([("fall", 1)])
        self.check(world, ("deliver", 1), self.present(world, 1, "take", letter))
        world.play([("commit", 1), ("fall", 1)])
        self.check(world, ("deliver", 1), lambda parts: None)
        self.refuse(world, ("deliver", 2), ("deliver", -1), ("deliver", 10 ** 12))
        self.refuse(World(IMAGE, 2), ("deliver", 0), ("deliver", -1))

    def test_fall(self):
        world = played(*works(3), ("commit", 0), *works(4))

        def change(parts):
            parts[0][0] = parts[1][0]
        self.check(world, ("fall", 0), change)
        self.check(world, ("fall", 0), lambda parts: None)
        self.check(world, ("fall", 2), lambda parts: None)
        self.refuse(world, ("fall", 3), ("fall", -1), ("fall", -3))
        world.play(works(1) + [("commit", 0)])
        self.assertEqual(world.order(), ((),) * 4)

    def test_the_kept_state_is_not_changed_by_what_follows_a_fall(self):
        world = played(*works(3), ("commit", 0), *works(1), ("fall", 0))
        kept = world.kept(0).state()
        world.play(works(5))
        self.assertEqual(world.kept(0).state(), kept)
        world.do(("fall", 0))
        self.assertEqual(world.present(0).state(), kept)

    def test_push(self):
        world = played(*works(3))
        self.check(world, ("push", 0, CELL, 2), self.present(world, 0, "carry", CELL, 2))
        self.check(world, ("push", 0, START, 1), self.present(world, 0, "carry", START, 1))
        self.assertEqual(world.present(0).bundles(), ())

    def test_no_push(self):
        world = played(*works(3), ("push", 0, CELL, 2))
        self.refuse(world, ("push", 0, CELL, 1), ("push", 2, CELL, 1), ("push", 0, START, 0), ("push", 0, START, 3),
                    ("push", 0, START, -1), ("push", 0, START, 10 ** 12), ("push", 3, START, 1), ("push", -3, START, 1),
                    ("push", 1, START, 0), ("push", 0, ((), -1), 1), ("push", 0, ((4, 4), 9), 1))
        world.do(("gather",))
        self.refuse(world, ("push", 0, START, 1))
        self.refuse(World(IMAGE, 1), ("push", 0, START, 0), ("push", 0, START, 1))

    def test_gather(self):
        world = played(*works(3))
        place = world.present(0)
        start_round(place)

        def change(parts):
            parts[0][0] = place.state()
        self.check(world, ("gather",), change)
        self.refuse(world, ("gather",), ("work", 0, ()))
        world.do(("fall", 0))
        self.assertTrue(world.can(("gather",)))
        alone = played(*works(3), places=1)
        for turn in (1, 2, 3):
            alone.do(("gather",))
            self.assertEqual((alone.present(0).stopped(), alone.present(0).notes()), (0, (turn, 0, ())))
            self.assertEqual(len(alone.present(0).bundles()), 2)


class Courses(unittest.TestCase):
    def test_play(self):
        course = works(4) + [("commit", 0), ("fall", 1), ("send", 0)]
        one, other = World(IMAGE, 3), World(IMAGE, 3)
        self.assertIsNone(one.play(course))
        self.assertEqual(len(course), 7)
        for event in course:
            other.do(event)
        self.assertEqual(everything(one), everything(other))
        self.assertIsNone(one.play([]))
        self.assertEqual(everything(one), everything(other))

    def test_up_to_the_first_that_cannot_happen(self):
        for bad in (("work", 1, ()), ("deliver", 9), ("commit", 3), ("push", 0, CELL, 0)):
            world = World(IMAGE, 3)
            with self.assertRaises(NotAllowed):
                world.play(works(4) + [("commit", 0), bad, ("send", 0), ("fall", 0)] + works(2))
            self.assertEqual(everything(world), everything(played(*works(4), ("commit", 0))))

    def test_the_same_course_gives_the_same_world(self):
        for seed, text in enumerate((COUNTER, ROVING, LEAVING, FAULTS)):
            course = Course(compiled(text), 3, seed, GATHERING)
            for _ in range(200):
                course.step()
            world = played(*course.events, image=course.world.image())
            self.assertEqual(everything(world), everything(course.world))

    def test_copies(self):
        for seed, text in enumerate((COUNTER, ROVING, LEAVING)):
            course = Course(compiled(text), 3, seed, GATHERING)
            for _ in range(150):
                course.step()
            world = course.world
            before = everything(world)
            many = len(course.events)
            twin = world.copy()
            self.assertIsInstance(twin, World)
            self.assertEqual(everything(twin), before)
            for _ in range(150):
                course.step()
            changed = everything(world)
            self.assertNotEqual(changed, before)
            self.assertEqual(everything(twin), before)
            twin.play(course.events[many:])
            self.assertEqual(everything(twin), changed)

    def test_what_is_returned_is_a_copy(self):
        world = played(*works(5), ("commit", 0), ("send", 0))
        before = everything(world)
        for place in (world.present(0), world.kept(0), world.present(1), world.kept(1)):
            place.put(((((4,), 4)), "Cell", (1,), (), 0))
            place.stop(3)
            place.take((2, place.me(), 0, ("at", CELL, 2, 9)))
            place.settle()
        self.assertEqual(everything(world), before)
        for value in (world.air(), world.order(), world.prints()):
            self.assertIsInstance(value, tuple)

    def test_late_letters_and_falls(self):
        """A place that falls loses what it has taken, and takes it again when the letter comes again."""
        world = played(*works(5), ("commit", 0), ("send", 0), ("deliver", 1), *works(3))
        self.assertEqual([one[0] for one in world.present(1).bundles()], [CELL])
        world.play([("fall", 1), ("commit", 1)])
        self.assertEqual((world.present(1).bundles(), world.kept(1).bundles()), ((), ()))
        world.play([("send", 0), ("deliver", 3), ("commit", 1), ("fall", 1), ("deliver", 1)])
        self.assertEqual([one[0] for one in world.kept(1).bundles()], [CELL])
        self.assertEqual(world.present(1).state(), world.kept(1).state())


if __name__ == "__main__":
    unittest.main()
