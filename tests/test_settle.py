import unittest

from portage.compiler import compile_program
from portage.errors import NotAllowed
from portage.picture import look, picture, replayed
from portage.place import Place
from portage.plain import begin, finish
from portage.settle import MAX_BURST, MAX_ROUNDS, balance, is_quiet, settle
from portage.trim import trim
from portage.world import World
from tests.courses import GATHERING, WILD, Course, images
from tests.goods import Goods
from tests.programs import CHURN, COUNTER, ENDLESS, FAULTS, LEAVING, ROVING, SHORT, SWARM, compiled
from tests.stands import HOMES, bundle, entry, frame, image_of, ref

IMAGES = images()
A, B, C, D = HOMES[0], HOMES[1], HOMES[2], HOMES[3]
STOP = ("stop", 1, 1)


class Recorder(World):
    """A world that remembers the events that have happened to it."""

    def __init__(self, image, places):
        World.__init__(self, image, places)
        self.events = []

    def do(self, event):
        World.do(self, event)
        self.events.append(event)


def everything(world):
    places = range(world.places())
    return ([world.present(p).state() for p in places], [world.kept(p).state() for p in places], world.air(), world.order(),
            world.prints())


class Pair:
    """A world of two places whose states are put together by hand."""

    def __init__(self):
        self.now = [Place(image_of(()), 2, p) for p in range(2)]
        self.held = [Place(image_of(()), 2, p) for p in range(2)]

    def places(self):
        return 2

    def present(self, p):
        return self.now[p].copy()

    def kept(self, p):
        return self.held[p].copy()

    def both(self, p, method, *arguments):
        getattr(self.now[p], method)(*arguments)
        getattr(self.held[p], method)(*arguments)
        return self


class Quiet(unittest.TestCase):
    def test_constants(self):
        self.assertEqual((MAX_BURST, MAX_ROUNDS), (40, 60))

    def test_the_beginning(self):
        for places in (1, 2, 8):
            self.assertIs(is_quiet(World(compiled(SHORT), places)), False)

    def test_at_the_end(self):
        world = World(compiled(SHORT), 3)
        world.play([("work", 0, ())] * 4)
        self.assertIs(is_quiet(world), False)
        world.do(("commit", 0))
        self.assertIs(is_quiet(world), True)

    def test_by_hand(self):
        self.assertIs(is_quiet(Pair()), True)
        for p in range(2):
            rows = [entry((1,), token=None), entry((2,), word="nil")]
            self.assertIs(is_quiet(Pair().both(p, "put", bundle(A, rows)).both(p, "arrive", ("please", B, 3, 0))), True)
            quiet = Pair().both(p, "note", (4, 0, ())).both(p, "take", (1 - p, p, 3, ("at", A, 1, 1)))
            self.assertIs(is_quiet(quiet), True)

    def test_a_ready_process(self):
        for p in range(2):
            self.assertIs(is_quiet(Pair().both(p, "put", bundle(A, [entry((1,), token=None), entry((2,))]))), False)

    def test_an_outbox(self):
        for p in range(2):
            self.assertIs(is_quiet(Pair().both(p, "give", 1 - p, STOP)), False)

    def test_a_burst(self):
        for p in range(2):
            pair = Pair()
            for place in (pair.now[p], pair.held[p]):
                place.put(bundle(A, [entry(inner=frame("get", 1, (0, 0, 0, 0), (3,)))]))
                place.work((1,))
            self.assertEqual(pair.now[p].ready(), [])
            self.assertIs(is_quiet(pair), False)
            for place in (pair.now[p], pair.held[p]):
                place.settle()
            self.assertIs(is_quiet(pair), True)

    def test_a_stopped_place(self):
        for p in range(2):
            self.assertIs(is_quiet(Pair().both(p, "stop", 3)), False)

    def test_another_kept_state(self):
        for p in range(2):
            for change in (lambda place: place.put(bundle(A)), lambda place: place.note((1, 0, ())),
                           lambda place: place.announce(A, 1 - p, 3), lambda place: place.take((1 - p, p, 0, ("at", D, 1, 1)))):
                pair = Pair()
                change(pair.now[p])
                self.assertIs(is_quiet(pair), False)
                change(pair.held[p])
                self.assertIs(is_quiet(pair), True)
                pair = Pair()
                change(pair.held[p])
                self.assertIs(is_quiet(pair), False)

    def test_a_kept_outbox(self):
        """What is acknowledged, but not kept so, makes the states different."""
        pair = Pair().both(0, "give", 1, STOP)
        pair.now[0].take((1, 0, -1, ("ack", 1, ())))
        self.assertEqual(pair.now[0].outbox(), ())
        self.assertIs(is_quiet(pair), False)

    def test_nothing_changes(self):
        course = Course(IMAGES[1], 3, 5, WILD)
        for _ in range(60):
            course.several(5)
        before = everything(course.world)
        is_quiet(course.world)
        self.assertEqual(everything(course.world), before)


def settled(world, rounds):
    """Settles a world as the document says, with events alone; returns how many rounds it made."""
    for made in range(rounds):
        if quiet(world):
            return made
        sent = len(world.air())
        for p in range(world.places()):
            for _ in range(40):
                if world.present(p).stopped() == 0 and world.present(p).ready():
                    world.do(("work", p, min(world.present(p).ready())))
            world.do(("commit", p))
            world.do(("send", p))
        for k in range(sent, len(world.air())):
            world.do(("deliver", k))
        for p in range(world.places()):
            world.do(("commit", p))
    return rounds


def quiet(world):
    for p in range(world.places()):
        place, kept = world.present(p), world.kept(p)
        if place.ready() or place.outbox() or place.burst() or place.stopped() or place.state() != kept.state():
            return False
    return True


class Settling(unittest.TestCase):
    def test_the_events_of_a_round(self):
        world = Recorder(compiled(COUNTER), 3)
        self.assertEqual(settle(world, 1), 1)
        ends = [("commit", 0), ("send", 0), ("commit", 1), ("send", 1), ("commit", 2), ("send", 2)]
        commits = [("commit", 0), ("commit", 1), ("commit", 2)]
        # News of the object, the object itself, and a call for it.
        self.assertEqual([letter[3][0] for letter in world.air()], ["at", "carry", "call"])
        first = [("work", 0, ())] * 8 + ends + [("deliver", 0), ("deliver", 1), ("deliver", 2)] + commits
        self.assertEqual(world.events, first)
        self.assertEqual(settle(world, 1), 1)
        # Place 0 sends all again, as nothing is acknowledged yet; place 1 answers.
        self.assertEqual([letter[:2] for letter in world.air()[3:]], [(0, 1)] * 3 + [(1, 0), (1, 0)])
        letters = [("deliver", k) for k in range(3, 8)]
        works = [("work", 1, ())] * 6
        self.assertEqual(world.events[len(first):], ends[:2] + works + ends[2:] + letters + commits)

    def test_the_least_process_first(self):
        world = Recorder(compiled(SWARM), 1)
        self.assertEqual(settle(world, 1), 1)
        works = [event[2] for event in world.events if event[0] == "work"]
        # Once it has ended, or waits, the next one works; a single place has nothing to wait for.
        self.assertEqual(works, [()] * 40)
        settle(world, 60)
        works = [event[2] for event in world.events if event[0] == "work"]
        self.assertEqual(works, sorted(works))
        self.assertEqual(sorted({process for process in works}), [(), (0,), (1,), (2,), (3,), (4,), (5,)])

    def test_the_least_process_comes_back(self):
        """A smaller one that becomes ready in the midst of a round is first again."""
        text = """interface I { go(int): int; } maker M() { op go(k: int): int { if k < 1 { return 0; } fork self.go(k - 1); return k; } }
            start { let m: I = new M(); fork m.go(2); fork m.go(0); return 0; }"""
        world = Recorder(compiled(text), 1)
        settle(world, 60)
        works = [event[2] for event in world.events if event[0] == "work"]
        self.assertEqual(sorted({process for process in works}), [(), (0,), (0, 0), (0, 0, 0), (1,)])
        self.assertEqual(works, sorted(works))

    def test_bursts(self):
        for places in (1, 2):
            world = Recorder(compiled(ENDLESS), places)
            for made in range(1, 4):
                self.assertEqual(settle(world, 1), 1)
                self.assertEqual(world.order(), ((),) * (40 * made))
            self.assertEqual(settle(world, MAX_ROUNDS), 60)
            self.assertEqual(len(world.order()), 40 * 63)
            self.assertIs(is_quiet(world), False)

    def test_each_place_has_its_burst(self):
        text = """interface I { go(int): int; } maker M() { op go(k: int): int { while 0 < 1 { k = 1; } return 0; } }
            start { let m: I = new M(); move m to 1; fork m.go(1); while 0 < 1 { print 1; } return 0; }"""
        world = Recorder(compiled(text), 2)
        settle(world, 6)
        world.events.clear()
        settle(world, 1)
        works = [event for event in world.events if event[0] == "work"]
        self.assertEqual(works, [("work", 0, ())] * 40 + [("work", 1, (0,))] * 40)

    def test_no_rounds(self):
        for rounds in (0, -1, -60):
            world = World(compiled(SHORT), 2)
            before = everything(world)
            self.assertEqual(settle(world, rounds), 0)
            self.assertEqual(everything(world), before)

    def test_quiet_already(self):
        world = World(compiled(SHORT), 2)
        self.assertEqual(settle(world, 60), 1)
        before = everything(world)
        self.assertEqual(settle(world, 60), 0)
        self.assertEqual(everything(world), before)

    def test_fewer_rounds_than_are_needed(self):
        needed = settle(World(compiled(COUNTER), 3), 60)
        self.assertTrue(3 < needed < 60)
        for many in range(1, needed + 3):
            world = World(compiled(COUNTER), 3)
            self.assertEqual(settle(world, many), min(many, needed))
            self.assertIs(is_quiet(world), many >= needed)
        world = World(compiled(COUNTER), 3)
        self.assertEqual(sum([settle(world, 1) for _ in range(60)]), needed)
        one, other = World(compiled(COUNTER), 3), World(compiled(COUNTER), 3)
        settle(one, 60)
        settle(other, 2)
        settle(other, 60)
        self.assertEqual(everything(one), everything(other))

    def test_a_stopped_place(self):
        """It does no work until the round of collecting is over."""
        world = Recorder(compiled(ENDLESS), 2)
        world.play([("gather",)])
        world.events.clear()
        settle(world, 1)
        self.assertEqual([event for event in world.events if event[0] == "work"], [])
        settle(world, 1)
        self.assertEqual([event for event in world.events if event[0] == "work"], [])
        settle(world, 1)
        self.assertEqual([event for event in world.events if event[0] == "work"], [("work", 0, ())] * 40)

    def test_event_by_event(self):
        rounds = {}
        for seed in range(60):
            course = Course(IMAGES[seed % len(IMAGES)], seed % 4 + 1, seed + 40, GATHERING if seed % 2 else WILD)
            for _ in range(60):
                course.several(6)
            twin = course.world.copy()
            many = seed % 7 + 1
            made = settle(course.world, many)
            self.assertEqual(made, settled(twin, many))
            self.assertEqual(everything(course.world), everything(twin))
            rounds[made] = True
        self.assertGreater(len(rounds), 4)


class Endings(unittest.TestCase):
    """When all processes end on the plain machine, settling ends, too."""

    def check(self, world, gathered=False):
        made = settle(world, 400)
        self.assertLess(made, 400)
        self.assertIs(is_quiet(world), True)
        found, expected = picture(world), replayed(world)
        if gathered:
            found, expected = trim(found), trim(expected)
        self.assertEqual(found, expected)
        self.assertEqual(look(world), [])
        for row in found[1]:
            self.assertIn(row[2][0], ("done", "fault"))

    def test_from_the_beginning(self):
        for text in (SHORT, COUNTER, ROVING, LEAVING, FAULTS, SWARM, CHURN):
            for places in range(1, 9):
                self.check(World(compiled(text), places))

    def test_behind_courses(self):
        for seed in range(40):
            text = (COUNTER, ROVING, LEAVING, FAULTS, SWARM, CHURN)[seed % 6]
            course = Course(compiled(text), seed % 4 + 1, seed + 60, GATHERING if seed % 2 else WILD)
            for _ in range(80):
                course.several(6)
            self.check(course.world, seed % 2 == 1)

    def test_drawn_programs(self):
        """Without forks there is one order: settling ends just if the plain machine does, in the same state."""
        ended = 0
        for seed in range(80):
            image = compile_program(Goods(seed, False).program())
            state, _ = finish(image, begin(image), 1500)
            world = World(image, seed % 4 + 1)
            if state[1][0][2] == ("run",):
                self.assertEqual(settle(world, 20), 20)
            else:
                self.check(world)
                self.assertEqual(picture(world), state)
                ended += 1
        self.assertGreater(ended, 50)

    def test_drawn_programs_with_forks(self):
        ended = 0
        for seed, image in enumerate(IMAGES):
            state, _ = finish(image, begin(image), 1500)
            if all([row[2] != ("run",) for row in state[1]]):
                world = World(image, seed % 4 + 1)
                self.check(world)
                ended += 1
        self.assertGreater(ended, 20)

    def test_behind_falls_and_lost_letters(self):
        for seed in range(12):
            course = Course(IMAGES[seed % 5], 3, seed, {"work": 60, "commit": 20, "send": 5, "fall": 4, "push": 10})
            for _ in range(150):
                course.step()
            course.world.play([("fall", p) for p in range(3)])
            self.assertEqual(picture(course.world), course.state())
            self.check(course.world)


class Loads:
    """A world whose pushes bring the bundles to the other place at once."""

    def __init__(self, *places):
        self.held = [Place(image_of(()), len(places), p) for p in range(len(places))]
        for place, bundles in zip(self.held, places):
            for one in bundles:
                place.put(one)
        self.events = []

    def places(self):
        return len(self.held)

    def present(self, p):
        return self.held[p].copy()

    def can(self, event):
        return self.held[event[1]].stopped() == 0

    def do(self, event):
        if not self.can(event):
            raise NotAllowed("stopped")
        self.events.append(event)
        _, p, name, q = event
        self.held[p].carry(name, q)
        self.held[q].arrive(self.held[p].outbox()[-1][3])


class Balancing(unittest.TestCase):
    def world(self, many, places):
        """A world with so many objects, besides that of the start, at place 0."""
        makes = " ".join(["new M();"] * many)
        world = Recorder(compiled("maker M() { } start { " + makes + " return 0; }"), places)
        world.play([("work", 0, ())] * (2 * many + 2) + [("commit", 0)])
        world.events.clear()
        return world

    def test_by_hand(self):
        """The bundles that are pushed are under way: the load of the other place does not grow."""
        world = self.world(4, 2)
        before = picture(world)
        self.assertEqual(balance(world), 4)
        self.assertEqual(world.events, [("push", 0, ((), k), 1) for k in range(4)])
        self.assertEqual(picture(world), before)
        world.do(("commit", 0))
        self.assertEqual(picture(world), before)
        self.assertEqual([len(world.present(p).bundles()) for p in range(2)], [1, 0])
        self.assertEqual(balance(world), 0)
        settle(world, 60)
        self.assertEqual(picture(world), before)
        self.assertEqual([len(world.present(p).bundles()) for p in range(2)], [1, 4])
        world.events.clear()
        self.assertEqual(balance(world), 2)
        self.assertEqual(world.events, [("push", 1, ((), 0), 0), ("push", 1, ((), 1), 0)])

    def test_how_far(self):
        for many, pushes in ((0, 0), (1, 1), (2, 2), (7, 7)):
            for places in (2, 3, 8):
                self.assertEqual(balance(self.world(many, places)), pushes)

    def test_one_place(self):
        world = self.world(5, 1)
        before = everything(world)
        self.assertEqual(balance(world), 0)
        self.assertEqual((world.events, everything(world)), ([], before))

    def test_the_least_place_with_the_least_load(self):
        world = self.world(5, 4)
        balance(world)
        self.assertEqual({event[3] for event in world.events}, {1})
        world = self.world(5, 4)
        world.play([("push", 0, ((), 0), 1), ("commit", 0), ("send", 0)])
        world.play([("deliver", k) for k in range(len(world.air()))])
        world.events.clear()
        self.assertEqual(balance(world), 4)
        self.assertEqual(world.events, [("push", 0, ((), k), 2) for k in range(1, 5)])

    def test_the_least_place_with_the_greatest_load(self):
        loads = Loads([bundle(A)], [bundle(B), bundle(C), bundle(((), 8))], [bundle(((), k)) for k in (5, 6, 7)], [])
        self.assertEqual(balance(loads), 2)
        self.assertEqual(loads.events, [("push", 1, B, 3), ("push", 2, ((), 5), 0)])

    def test_arriving_at_once(self):
        loads = Loads([bundle(((), k)) for k in range(7)], [], [])
        self.assertEqual(balance(loads), 4)
        self.assertEqual(loads.events, [("push", 0, ((), k), q) for k, q in ((0, 1), (1, 2), (2, 1), (3, 2))])
        loads = Loads([bundle(A), bundle(B)], [bundle(C)])
        self.assertEqual((balance(loads), loads.events), (0, []))

    def test_a_bundle_that_was_pushed_already(self):
        """What is attached goes along, so that the load swings back."""
        ring = [bundle(A, fields=(ref(B), 0, ref(C))), bundle(B, fields=(ref(C), 0, ref(A))), bundle(C, fields=(ref(A), 0, ref(B)))]
        loads = Loads(ring, [])
        self.assertEqual(balance(loads), 1)
        self.assertEqual(loads.events, [("push", 0, A, 1)])
        loads = Loads(ring + [bundle(D)], [])
        self.assertEqual(balance(loads), 1)
        self.assertEqual(loads.events, [("push", 0, A, 1)])

    def test_what_goes_along(self):
        """Two attached ones go with one push."""
        text = "interface I { } maker M(attached a: I) { } start { new M(new M(new M(nil))); new M(nil); new M(nil); return 0; }"
        world = Recorder(compiled(text), 2)
        world.play([("work", 0, ())] * 13 + [("commit", 0)])
        self.assertEqual(len(world.present(0).bundles()), 6)
        world.events.clear()
        self.assertEqual(balance(world), 5)
        world = Recorder(compiled(text.replace("new M(nil); new M(nil);", "")), 2)
        world.play([("work", 0, ())] * 5)
        world.events.clear()
        self.assertEqual(balance(world), 3)
        text = "interface I { on(I): int; } maker M() { attached field a: I; op on(b: I): int { a = b; return 0; } } " \
               "start { let k: I = new M(); k.on(new M()); k.on(k); return 0; }"
        world = Recorder(compiled(text), 2)
        settle(world, 60)
        world.events.clear()
        self.assertEqual(balance(world), 2)
        self.assertEqual(world.events, [("push", 0, ((), 0), 1), ("push", 0, ((), 1), 1)])

    def test_a_stopped_place(self):
        world = self.world(4, 2)
        world.play([("gather",)])
        before = everything(world)
        world.events.clear()
        self.assertEqual(balance(world), 0)
        self.assertEqual((world.events, everything(world)), ([], before))
        loads = Loads([bundle(((), k)) for k in range(5)], [bundle(((), k)) for k in range(5, 10)], [])
        loads.held[1].stop(3)
        self.assertEqual(balance(loads), 1)
        self.assertEqual(loads.events, [("push", 0, ((), 0), 2)])
        loads = Loads([bundle(((), k)) for k in range(5)], [])
        loads.held[1].stop(3)
        self.assertEqual(balance(loads), 2)

    def test_drawn_worlds(self):
        """Against the rule itself, pushed on a copy; and the picture stays."""
        pushed = 0
        for seed in range(40):
            course = Course(IMAGES[2 if seed % 2 else seed], seed % 4 + 1, seed + 90, GATHERING)
            for _ in range(100):
                course.several(8)
            world, twin = course.world, course.world.copy()
            before = picture(world)
            many = balance(world)
            self.assertEqual(many, self.balanced(twin))
            self.assertEqual(everything(world), everything(twin))
            self.assertEqual(picture(world), before)
            world.play([("commit", p) for p in range(world.places())])
            twin.play([("commit", p) for p in range(world.places())])
            self.assertEqual(trim(picture(world)), trim(replayed(world)))
            self.assertEqual(look(world), [])
            pushed += many
        self.assertGreater(pushed, 40)

    def balanced(self, world):
        done = []
        while True:
            loads = {p: len(world.present(p).bundles()) for p in range(world.places())}
            full = [p for p in loads if loads[p] == max(loads.values())][0]
            free = [p for p in loads if loads[p] == min(loads.values())][0]
            name = min([one[0] for one in world.present(full).bundles()], default=None)
            if loads[full] < loads[free] + 2 or name in done or world.present(full).stopped():
                return len(done)
            world.do(("push", full, name, free))
            done.append(name)


if __name__ == "__main__":
    unittest.main()
