import unittest

from portage.picture import look, picture, replayed, under_way
from portage.place import Place
from portage.plain import begin, run
from portage.world import World
from tests.programs import COUNTER, FAULTS, SHORT, compiled
from tests.stands import HOMES, NIL, bundle, empty, entry, frame, image_of, ref

A, B, C, D = HOMES[0], HOMES[1], HOMES[2], HOMES[3]
START = ((), 0)
CELL = ((), 1)
RUN = ("run",)


class Stand:
    """A world of four places whose states are put together by hand; the present ones are the kept ones."""

    def __init__(self, prints=()):
        self.held = [Place(image_of(()), 4, p) for p in range(4)]
        self.now = {}
        self.told = prints

    def places(self):
        return 4

    def kept(self, p):
        return self.held[p].copy()

    def present(self, p):
        return self.now.get(p, self.held[p]).copy()

    def image(self):
        return image_of(())

    def prints(self):
        return self.told

    def with_bundles(self, p, *bundles):
        for one in bundles:
            self.held[p].put(one)
        return self

    def with_letters(self, p, *letters):
        for other, body in letters:
            self.held[p].give(other, body)
        return self

    def with_taken(self, p, *letters):
        """The letters are taken, and what they bring is there; pairs of a sender and a number, with the body."""
        for sender, number, body in letters:
            self.held[p].take((sender, p, number, body))
        return self


def objects_of(*bundles):
    return tuple(sorted([one[:3] for one in bundles]))


CALL = ("call", A, 3, (1,), 2, B, "get", (6, NIL), (4, 2))
FORK = ("call", A, -1, (1, 2), 0, (), "end", (), (0, 0))
RETURN = ("return", A, 3, (1,), 0, 9, (4, 2))
AT = ("at", A, 3, 3)


class UnderWay(unittest.TestCase):
    def test_ascending(self):
        stand = Stand().with_letters(2, (3, AT), (0, CALL), (3, FORK), (1, ("stop", 1, 1))).with_letters(0, (3, AT), (1, AT), (3, AT))
        self.assertEqual(under_way(stand), (
            (0, 1, 0, AT), (0, 3, 0, AT), (0, 3, 1, AT), (2, 0, 0, CALL), (2, 1, 0, ("stop", 1, 1)), (2, 3, 0, AT), (2, 3, 1, FORK)))
        self.assertEqual(under_way(Stand()), ())

    def test_what_is_taken_is_not(self):
        stand = Stand().with_letters(2, (3, AT), (3, AT), (3, AT), (0, AT)).with_taken(3, (2, 1, AT), (2, 5, AT), (0, 0, AT))
        self.assertEqual(under_way(stand), ((2, 0, 0, AT), (2, 3, 0, AT), (2, 3, 2, AT)))
        stand.held[2].take((3, 2, -1, ("ack", 0, (1,))))
        self.assertEqual(under_way(stand), ((2, 0, 0, AT), (2, 3, 0, AT), (2, 3, 2, AT)))

    def test_of_a_course(self):
        world = World(compiled(COUNTER), 3)
        world.play([("work", 0, ())] * 5)
        self.assertEqual(under_way(world), ())
        world.do(("commit", 0))
        letters = world.kept(0).outbox()
        self.assertEqual(under_way(world), letters)
        world.play([("send", 0), ("deliver", 1)])
        # It is delivered, but not kept.
        self.assertEqual(under_way(world), letters)
        world.do(("commit", 1))
        self.assertEqual(under_way(world), letters[:1])
        self.assertEqual(world.kept(0).outbox(), letters)
        world.play([("deliver", 0), ("commit", 1)])
        self.assertEqual(under_way(world), ())


class Pictures(unittest.TestCase):
    def test_the_beginning(self):
        for text in (SHORT, COUNTER, FAULTS):
            for places in (1, 3):
                world = World(compiled(text), places)
                self.assertEqual(picture(world), begin(compiled(text)))
                self.assertEqual(replayed(world), begin(compiled(text)))

    def test_objects(self):
        at_places = (bundle(B, count=4), empty(((0,), 5)), bundle(((), 10)))
        carried = (bundle(A, fields=(ref(B), 3, NIL)), empty(C))
        stand = Stand().with_bundles(2, *at_places[:2]).with_bundles(0, at_places[2]).with_letters(1, (3, ("carry", carried)))
        self.assertEqual(picture(stand), (objects_of(*at_places, *carried), (), ()))

    def test_a_carry_that_was_taken(self):
        body = ("carry", (bundle(A, [entry()], 3),))
        stand = Stand().with_letters(1, (3, body)).with_taken(3, (1, 0, body))
        self.assertEqual(picture(stand), (
            objects_of(bundle(A)), (((1,), (4, 2), RUN, ((A, frame()),)),), ()))

    def test_frames_of_bundles(self):
        rows = [entry((1,), 0, frame(at=1), token=None), entry((1,), 2, frame(at=3), B, (9, 9))]
        other = [entry((), 0, frame(at=7), token=(1, 1)), entry((1,), 1, frame(at=2), A, None)]
        stand = Stand().with_bundles(3, bundle(A, rows)).with_letters(0, (2, ("carry", (bundle(B, other),))))
        self.assertEqual(picture(stand), (objects_of(bundle(A), bundle(B)), (
            ((), (1, 1), RUN, ((B, frame(at=7)),)),
            ((1,), (9, 9), RUN, ((A, frame(at=1)), (B, frame(at=2)), (A, frame(at=3))))), ()))

    def waiting(self, maker="M"):
        """A process whose first frames wait, in two objects at two places."""
        first = bundle(A, [entry((1,), 0, frame(at=1, stack=(3,)), token=None)], 3, maker=maker)
        return Stand().with_bundles(3, first, bundle(B, [entry((1,), 1, frame(at=2), A, None)]))

    def check(self, stand, token, status, *frames, more=()):
        rows = (((1,), token, status, frames),) + more
        self.assertEqual(picture(stand)[1], rows)
        self.assertEqual(look(stand), [])

    def test_calls(self):
        frames = ((A, frame(at=1, stack=(3,))), (B, frame(at=2)), (A, ("get", 0, (6, NIL, 0, 0), ())))
        self.check(self.waiting().with_letters(1, (3, CALL)), (4, 2), RUN, *frames)
        parked = self.waiting()
        parked.held[0].arrive(CALL)
        self.assertEqual(parked.held[0].parked(), (CALL,))
        self.check(parked, (4, 2), RUN, *frames)
        taken = self.waiting().with_letters(1, (3, CALL)).with_taken(3, (1, 0, CALL))
        self.check(taken, (4, 2), RUN, *frames)

    def test_a_call_of_another_maker(self):
        stand = Stand().with_bundles(3, empty(A)).with_letters(2, (0, FORK))
        self.assertEqual(picture(stand), (objects_of(empty(A)), (((1, 2), (0, 0), RUN, ((A, ("end", 0, (0,), ())),)),), ()))
        stand = Stand().with_letters(2, (0, FORK), (1, ("carry", (empty(A),))))
        self.assertEqual(picture(stand), (objects_of(empty(A)), (((1, 2), (0, 0), RUN, ((A, ("end", 0, (0,), ())),)),), ()))

    def test_returns(self):
        def only_one():
            return Stand().with_bundles(3, bundle(A, [entry((1,), 0, frame(at=1, stack=(3,)), token=None)], 3))
        behind = (A, frame(at=1, stack=(3, 9)))
        self.check(only_one().with_letters(1, (3, RETURN)), (4, 2), RUN, behind)
        parked = only_one()
        parked.held[1].arrive(RETURN)
        self.assertEqual(parked.held[1].parked(), (RETURN,))
        self.check(parked, (4, 2), RUN, behind)
        self.check(only_one().with_letters(1, (3, RETURN)).with_taken(3, (1, 0, RETURN)), (4, 2), RUN, behind)

    def test_a_return_to_a_deeper_frame(self):
        stand = self.waiting().with_letters(2, (1, ("return", B, -1, (1,), 1, ref(C), (5, 5))))
        self.check(stand, (5, 5), RUN, (A, frame(at=1, stack=(3,))), (B, frame(at=2, stack=(ref(C),))))

    def test_a_return_to_what_is_carried(self):
        rows = [entry((1,), 0, frame(at=1), token=None)]
        stand = Stand().with_letters(2, (1, ("carry", (bundle(A, rows, 3),))), (1, RETURN))
        self.check(stand, (4, 2), RUN, (A, frame(at=1, stack=(9,))))

    def test_ends_and_faults(self):
        stand = self.waiting().with_letters(1, (3, CALL))
        ends = Place(image_of((("return",),)), 4, 2)
        ends.put(bundle(D, [entry((7,), inner=frame(stack=(ref(B),)), token=(3, 3)), entry((0,), inner=frame(stack=(NIL,)))]))
        ends.work((7,))
        ends.work((0,))
        stand.held[2] = ends
        stand.held[1].put(bundle(C, [entry((3, 0), word="large"), entry((4,), 1, word="", back=D), entry((5,), word="nil")]))
        stand.held[1].put(bundle(((), 6), [entry((4,), 0, token=None)]))
        processes = picture(stand)[1]
        self.assertEqual([row[:3] for row in processes], [
            ((0,), (4, 2), ("done", NIL)), ((1,), (4, 2), RUN), ((3, 0), (4, 2), ("fault", "large")), ((4,), (4, 2), RUN),
            ((5,), (4, 2), ("fault", "nil")), ((7,), (3, 3), ("done", ref(B)))])
        self.assertEqual([len(row[3]) for row in processes], [0, 3, 1, 2, 1, 0])
        self.assertEqual(look(stand), [])

    def test_a_fault_of_a_deeper_frame(self):
        rows = [entry((1,), 0, token=None), entry((1,), 1, frame(at=4), A, (1, 0), "number")]
        self.check(Stand().with_bundles(0, bundle(A, rows)), (1, 0), ("fault", "number"), (A, frame()), (A, frame(at=4)))

    def test_prints(self):
        prints = (((), 4), ((1,), ref(A)), ((), 4))
        self.assertEqual(picture(Stand(prints)), ((), (), prints))

    def test_kept_states_alone(self):
        world = World(compiled(SHORT), 2)
        image = world.image()
        world.play([("work", 0, ())] * 4)
        self.assertEqual(picture(world), begin(image))
        self.assertEqual(replayed(world), begin(image))
        world.do(("commit", 0))
        self.assertEqual(picture(world), (((START, "start", ()),), (((), (1, 0), ("done", 5), ()),), (((), 4),)))
        self.assertEqual(replayed(world), picture(world))

    def test_replayed(self):
        image = compiled(FAULTS)
        world = World(image, 2)
        course = [("work", 0, ())] * 5 + [("work", 0, (0,)), ("work", 0, ()), ("commit", 0), ("work", 0, ())]
        world.play(course)
        self.assertEqual(replayed(world), run(image, begin(image), [()] * 5 + [(0,), ()]))

    def test_step_by_step(self):
        """A call that goes to another place, and its return, kept at each moment."""
        image = compiled(COUNTER)
        world = World(image, 2)
        plain = begin(image)
        bodies = []
        for _ in range(60):
            for p in (0, 1):
                if world.can(("work", p, ())):
                    world.play([("work", p, ()), ("commit", p)])
                    plain = run(image, plain, [()])
                self.assertEqual(picture(world), plain)
                self.assertEqual(replayed(world), plain)
                world.play([("send", p)])
                bodies.extend([letter[3][0] for letter in under_way(world)])
            for k in range(len(world.air()))[-4:]:
                world.do(("deliver", k))
                self.assertEqual(picture(world), plain)
            for p in (0, 1):
                world.do(("commit", p))
                self.assertEqual(picture(world), plain)
        self.assertEqual(plain[1][0][2], ("done", 12))
        self.assertTrue(all([word in bodies for word in ("call", "return", "carry", "please")]), bodies)


class Looking(unittest.TestCase):
    """Worlds that come of no course."""

    def test_sound(self):
        self.assertEqual(look(Stand()), [])
        self.assertEqual(look(World(compiled(SHORT), 8)), [])
        self.assertEqual(look(Stand().with_bundles(0, bundle(A, [entry()])).with_bundles(3, bundle(B))), [])

    def test_place(self):
        self.assertEqual(look(Stand().with_bundles(0, bundle(A)).with_bundles(3, bundle(A))), ["place"])
        carry = ("carry", (bundle(A), bundle(B)))
        self.assertEqual(look(Stand().with_bundles(0, bundle(B)).with_letters(3, (2, carry))), ["place"])
        self.assertEqual(look(Stand().with_letters(3, (2, carry), (1, ("carry", (bundle(A),))))), ["place"])
        self.assertEqual(look(Stand().with_bundles(0, bundle(C)).with_letters(3, (2, carry))), [])

    def test_token(self):
        waits = entry((1,), token=None)
        self.assertEqual(look(Stand().with_bundles(0, bundle(A, [waits]))), ["token"])
        self.assertEqual(look(Stand().with_bundles(0, bundle(A, [entry(), entry((1,), 1, back=A, word="nil")]))), ["token"])
        self.assertEqual(look(Stand().with_bundles(0, bundle(A, [entry(word="nil")])).with_letters(3, (2, RETURN))), ["token"])
        self.assertEqual(look(Stand().with_bundles(0, bundle(A, [waits, entry((1,), 1, back=A)])).with_letters(3, (2, CALL))), ["token"])
        ended = Stand().with_bundles(0, bundle(A, [entry()]))
        ends = Place(image_of((("return",),)), 4, 2)
        ends.put(bundle(B, [entry(inner=frame(stack=(4,)))]))
        ends.work((1,))
        ended.held[2] = ends
        self.assertEqual(look(ended), ["token"])

    def test_depth(self):
        rows = [entry((1,), token=None), entry((1,), 1, back=A)]
        self.assertEqual(look(Stand().with_bundles(0, bundle(A, rows)).with_bundles(1, bundle(B, rows[:1]))), ["depth"])
        stand = Stand().with_bundles(0, bundle(A, rows[:1] + [entry((1,), 1, back=A, token=None)]))
        self.assertEqual(look(stand.with_letters(3, (2, CALL[:4] + (1,) + CALL[5:]))), ["depth"])

    def test_rows(self):
        self.assertEqual(look(Stand().with_bundles(0, bundle(A, [entry((1,), 1, back=A)]))), ["rows"])
        self.assertEqual(look(Stand().with_bundles(0, bundle(A, [entry((1,), token=None), entry((1,), 2, back=A)]))), ["rows"])
        self.assertEqual(look(Stand().with_bundles(0, bundle(A, [entry((1,), token=None)])).with_letters(3, (2, CALL))), ["rows"])
        parked = Stand().with_bundles(1, bundle(A))
        parked.held[0].arrive(CALL)
        self.assertEqual(look(parked), ["rows"])

    def test_ready(self):
        stand = Stand().with_bundles(0, bundle(A, [entry()]))
        stand.now[2] = stand.held[0]
        self.assertEqual(look(stand), ["ready"])
        # It is not ready where it waits or has a fault.
        stand.now[2] = Stand().with_bundles(2, bundle(A, [entry(word="nil")])).held[2]
        self.assertEqual(look(stand), [])
        # Two of its frames at one place do not count here.
        stand.now[2] = Stand().with_bundles(2, bundle(A, [entry((2,)), entry((2,), 1, back=A)])).held[2]
        self.assertEqual(look(stand), [])

    def test_several(self):
        rows = [entry((1,), 1, back=A), entry((2,), 0)]
        stand = Stand().with_bundles(0, bundle(A, rows)).with_bundles(3, bundle(A, rows), bundle(B, rows))
        self.assertEqual(look(stand), ["place", "token", "depth", "rows", "ready"])
        self.assertEqual(look(Stand().with_bundles(0, bundle(A, [entry((1,), 1, back=A, token=None)]))), ["token", "rows"])


if __name__ == "__main__":
    unittest.main()
