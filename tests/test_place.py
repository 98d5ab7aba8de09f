import unittest

from portage.errors import NotAllowed
from portage.place import Place
from tests.stands import (
    FIRST, HOMES, NIL, NO_POST, bundle, empty, entry, frame, image_of, place_with, posted, ref, state)

A, B, C, D = HOMES[0], HOMES[1], HOMES[2], HOMES[3]
CALL = ("call", A, -1, (1,), 2, B, "get", (6, NIL), (4, 2))
RETURN = ("return", A, -1, (1,), 0, 9, (4, 2))
PLEASE = ("please", A, -1, 2)


def counted(body, count):
    return body[:2] + (count,) + body[3:]


class Empty(unittest.TestCase):
    def test_new(self):
        place = Place(image_of(()), 3, 2)
        self.assertEqual((place.me(), place.places(), place.stopped(), place.notes()), (2, 3, 0, ()))
        self.assertEqual(place.state(), ((), NO_POST, ((), ()), (), (), (), 0, (), (), ()))
        self.assertEqual(place.ready(), [])
        for found in (place.bundles(), place.ended(), place.parked(), place.outbox(), place.burst(), place.prints(),
                      place.answers()):
            self.assertEqual(found, ())
        for other in range(3):
            self.assertEqual((place.given(other), place.taken(other)), (0, 0))
            self.assertIs(place.has_taken(other, 0), False)

    def test_settings(self):
        place = Place(image_of(()), 3, 0)
        self.assertIsNone(place.stop(5))
        self.assertIsNone(place.note((5, 1, ())))
        self.assertEqual((place.stopped(), place.notes()), (5, (5, 1, ())))
        self.assertEqual(place.state(), state([], [], stopped=5, notes=(5, 1, ())))
        place.stop(0)
        place.note(())
        self.assertEqual(place.state(), state([], []))


class Putting(unittest.TestCase):
    def test_put(self):
        place = place_with(1, [])
        self.assertIsNone(place.put(bundle(C, count=3)))
        self.assertIsNone(place.put(bundle(A)))
        self.assertEqual(place.bundles(), (bundle(A), bundle(C, count=3)))
        self.assertEqual(place.state(), state(place.bundles(), [(A, 1, 0), (C, 1, 3)]))

    def test_twice(self):
        place = place_with(1, [bundle(A)])
        before = place.state()
        for again in (bundle(A), bundle(A, count=9), empty(A)):
            with self.assertRaises(NotAllowed):
                place.put(again)
            self.assertEqual(place.state(), before)

    def test_a_later_mark_stays(self):
        place = place_with(1, [bundle(A, count=3)], marks=[(A, 2, 4)])
        self.assertEqual(place.state(), state([bundle(A, count=3)], [(A, 2, 4)]))

    def test_bundles_ascend(self):
        names = [((), 10), ((), 9), ((0, 5), 0), ((1,), 0), ((0,), 3)]
        place = place_with(0, [empty(name) for name in names])
        self.assertEqual([one[0] for one in place.bundles()], [((), 9), ((), 10), ((0,), 3), ((0, 5), 0), ((1,), 0)])


class Ready(unittest.TestCase):
    def test_ready(self):
        rows = [entry((2,)), entry((0, 5)), entry((3,), token=None), entry((10,), word="nil"), entry((9,), depth=4)]
        place = place_with(0, [bundle(B, sorted(rows)), bundle(A, [entry((3,), 1), entry(())]), empty(C)])
        expected = [(), (0, 5), (2,), (3,), (9,)]
        self.assertEqual(place.ready(), expected)
        place.stop(4)
        self.assertEqual(place.ready(), expected)
        place.ready().append((7,))
        self.assertEqual(place.ready(), expected)

    def test_not_what_is_parked(self):
        place = place_with(0, [], parked=[CALL])
        self.assertEqual((place.parked(), place.ready()), ((CALL,), []))


class Work(unittest.TestCase):
    """Each result of an instruction, in the object D at its place 1; its home is place 3."""

    def worked(self, code, inner, **more):
        """The place behind a work, in which nothing but the bundle D and its mark was."""
        place = place_with(1, [bundle(D, [entry((0,), token=None), entry(inner=inner, **more), entry((2,))], 5)], code)
        self.assertIsNone(place.work((1,)))
        self.assertEqual(place.burst(), ((1,),))
        return place

    def bundle(self, *rows, fields=(5, 8, NIL)):
        return bundle(D, (entry((0,), token=None),) + rows + (entry((2,)),), 5, fields)

    def check(self, place, row, *others, marks=(), **more):
        rows = () if row is None else (row,)
        expected = state((self.bundle(*rows),) + others, ((D, 1, 5),) + marks, burst=((1,),), **more)
        self.assertEqual(place.state(), expected)

    def test_next(self):
        place = self.worked((("push", 6),), frame(stack=(2,)), depth=3, back=A)
        self.check(place, entry(inner=frame(at=1, stack=(2, 6)), depth=3, back=A))
        place = self.worked((("jump", 9),), frame())
        self.check(place, entry(inner=frame(at=9)))
        place = self.worked((("self",),), frame())
        self.check(place, entry(inner=frame(at=1, stack=(ref(D),))))

    def test_next_with_fields(self):
        place = self.worked((("setfield", 1),), frame(stack=(ref(A),)))
        expected = self.bundle(entry(inner=frame(at=1)), fields=(5, ref(A), NIL))
        self.assertEqual(place.state(), state([expected], [(D, 1, 5)], burst=((1,),)))

    def test_print(self):
        place = self.worked((("print",),), frame(stack=(3, ref(A))))
        self.check(place, entry(inner=frame(at=1, stack=(3,))), prints=(((1,), ref(A)),))
        self.assertEqual(place.prints(), (((1,), ref(A)),))

    def test_new(self):
        # The home of the first one is place 0, that of the second one is place 1 itself.
        for token, home in (((4, 2), 0), ((5, 0), 1)):
            made = ((1,), token[0])
            place = self.worked((("new", "M", 1),), frame(stack=(3, ref(A))), token=token)
            post = NO_POST if home == 1 else posted(1, (0, ("at", made, 1, 0)))
            row = entry(inner=frame(at=1, stack=(3, ref(made))), token=(token[0] + 1, token[1]))
            self.check(place, row, bundle(made, fields=(ref(A), 8, NIL)), marks=((made, 1, 0),), post=post,
                       given=() if home == 1 else ((0, 1),))

    def test_new_without_fields(self):
        place = self.worked((("new", "E", 0),), frame(), token=(0, 0))
        made = ((1,), 0)
        self.assertEqual(place.bundles(), (
            self.bundle(entry(inner=frame(at=1, stack=(ref(made),)), token=(1, 0))), empty(made)))

    def test_call_to_a_bundle_here(self):
        place = place_with(1, [bundle(D, [entry(inner=frame(stack=(7, ref(A), 6, NIL)), depth=2, back=B)]), bundle(A, [entry((2,))])],
                           (("call", "get", 2),))
        place.work((1,))
        waits = entry(inner=frame(at=1, stack=(7,)), depth=2, back=B, token=None)
        called = entry(inner=("get", 0, (6, NIL, 0, 0), ()), depth=3, back=D)
        self.assertEqual(place.state(), state(
            [bundle(D, [waits]), bundle(A, [called, entry((2,))])], [(A, 1, 0), (D, 1, 0)], burst=((1,),)))
        self.assertEqual(place.ready(), [(1,), (2,)])

    def test_call_to_itself(self):
        place = self.worked((("call", "end", 0),), frame(stack=(ref(D),)))
        rows = (entry(inner=frame(at=1), token=None), entry(inner=("end", 0, (), ()), depth=1, back=D))
        self.assertEqual(place.state(), state([self.bundle(*rows)], [(D, 1, 5)], burst=((1,),)))

    def test_call_to_a_bundle_elsewhere(self):
        place = place_with(1, [bundle(D, [entry(inner=frame(stack=(ref(A), 6, NIL)))])], (("call", "get", 2),), marks=[(A, 2, 7)])
        place.work((1,))
        body = ("call", A, 7, (1,), 1, D, "get", (6, NIL), (4, 2))
        self.assertEqual(place.state(), state(
            [bundle(D, [entry(inner=frame(at=1), token=None)])], [(A, 2, 7), (D, 1, 0)], posted(1, (2, body)), given=((2, 1),),
            burst=((1,),)))
        self.assertEqual(place.ready(), [])

    def test_call_to_a_bundle_of_which_nothing_is_known(self):
        place = self.worked((("call", "end", 0),), frame(stack=(ref(A),)))
        body = ("call", A, -1, (1,), 1, D, "end", (), (4, 2))
        self.check(place, entry(inner=frame(at=1), token=None), post=posted(1, (0, body)), given=((0, 1),))
        # The home itself keeps the body until it hears more.
        place = self.worked((("call", "end", 0),), frame(stack=(ref(B),)))
        body = ("call", B, -1, (1,), 1, D, "end", (), (4, 2))
        self.check(place, entry(inner=frame(at=1), token=None), parked=(body,))

    def test_fork(self):
        place = self.worked((("fork", "get", 2),), frame(stack=(3, ref(D), 6, 9)))
        row = entry(inner=frame(at=1, stack=(3,)), token=(4, 3))
        forked = entry((1, 2), inner=("get", 0, (6, 9, 0, 0), ()), token=(0, 0))
        self.assertEqual(place.state(), state([self.bundle(row, forked)], [(D, 1, 5)], burst=((1,),)))
        self.assertEqual(place.ready(), [(1,), (1, 2), (2,)])

    def test_fork_elsewhere(self):
        place = self.worked((("fork", "get", 2),), frame(stack=(ref(A), 6, 9)), depth=3, back=B, token=(0, 0))
        body = ("call", A, -1, (1, 0), 0, (), "get", (6, 9), (0, 0))
        row = entry(inner=frame(at=1), depth=3, back=B, token=(0, 1))
        self.check(place, row, post=posted(1, (0, body)), given=((0, 1),))

    def test_return_of_the_first_frame(self):
        place = self.worked((("return",),), frame(stack=(ref(A),)))
        self.check(place, None, ended=(((1,), (4, 2), ref(A)),))
        self.assertEqual(place.ended(), (((1,), (4, 2), ref(A)),))
        self.assertEqual(place.ready(), [(2,)])

    def test_ended_ascend(self):
        rows = [entry(process, inner=frame(stack=(k,)), token=(k, 0)) for k, process in enumerate([(), (0, 7), (2,), (10,)])]
        place = place_with(1, [bundle(A, rows)], (("return",),))
        for process in ((10,), (), (2,), (0, 7)):
            place.work(process)
        self.assertEqual(place.ended(), (((), (0, 0), 0), ((0, 7), (1, 0), 1), ((2,), (2, 0), 2), ((10,), (3, 0), 3)))
        self.assertEqual(place.burst(), ((10,), (), (2,), (0, 7)))
        self.assertEqual(place.bundles(), (bundle(A),))

    def test_return_to_a_frame_here(self):
        waits = entry(inner=frame(at=3, stack=(7,)), token=None)
        place = place_with(1, [bundle(A, [waits, entry((2,))]), bundle(D, [entry(inner=frame(stack=(9,)), depth=1, back=A)])],
                           (("return",),))
        place.work((1,))
        goes_on = entry(inner=frame(at=3, stack=(7, 9)))
        self.assertEqual(place.state(), state(
            [bundle(A, [goes_on, entry((2,))]), bundle(D)], [(A, 1, 0), (D, 1, 0)], burst=((1,),)))

    def test_return_within_an_object(self):
        rows = [entry(inner=frame(at=3, stack=(7,)), token=None), entry(inner=frame(stack=(9,)), depth=1, back=D)]
        place = place_with(1, [bundle(D, rows)], (("return",),))
        place.work((1,))
        self.assertEqual(place.bundles(), (bundle(D, [entry(inner=frame(at=3, stack=(7, 9)))]),))

    def test_return_to_a_frame_elsewhere(self):
        place = self.worked((("return",),), frame(stack=(NIL,)), depth=4, back=A)
        body = ("return", A, -1, (1,), 3, NIL, (4, 2))
        self.check(place, None, post=posted(1, (0, body)), given=((0, 1),))

    def test_move_elsewhere(self):
        for number, goal in ((2, 2), (7, 3), (-1, 3), (1, 1), (-3, 1), (10 ** 12, 0), (-10 ** 12 + 1, 1)):
            place = self.worked((("move",),), frame(stack=(3, ref(A), number)))
            post = posted(1, (0, ("please", A, -1, goal)))
            self.check(place, entry(inner=frame(at=1, stack=(3,))), post=post, given=((0, 1),))

    def test_what_the_home_knows_nothing_of(self):
        """B has its home here: whatever is for it waits, until more is heard."""
        place = self.worked((("fork", "end", 0),), frame(stack=(ref(B),)))
        body = ("call", B, -1, (1, 2), 0, (), "end", (), (0, 0))
        self.check(place, entry(inner=frame(at=1), token=(4, 3)), parked=(body,))
        place = self.worked((("return",),), frame(stack=(3,)), depth=1, back=B)
        self.check(place, None, parked=(("return", B, -1, (1,), 0, 3, (4, 2)),))
        place = self.worked((("move",),), frame(stack=(ref(B), 6)))
        self.check(place, entry(inner=frame(at=1)), parked=(("please", B, -1, 2),))

    def test_move_of_a_bundle_here(self):
        for number, goal in ((2, 2), (6, 2), (-2, 2), (3, 3), (-5, 3)):
            place = self.worked((("move",),), frame(stack=(ref(D), number)))
            moved = self.bundle(entry(inner=frame(at=1)))[:4] + (6,)
            # Place 3 is the home: no news of its own go there.
            letters = [(goal, ("carry", (moved,)))]
            if goal != 3:
                letters = [(3, ("at", D, goal, 6))] + letters
            numbers = ((3, 1),) if goal == 3 else ((2, 1), (3, 1))
            self.assertEqual(place.state(), state([], [(D, goal, 6)], posted(1, *letters), given=numbers, burst=((1,),)))

    def test_move_to_this_place(self):
        for number in (1, 5, -3):
            place = self.worked((("move",),), frame(stack=(ref(D), number)))
            self.check(place, entry(inner=frame(at=1)))

    def test_fault(self):
        for code, stack, word in (((("add",),), (2, NIL), "number"), ((("call", "end", 0),), (NIL,), "nil"),
                                  ((("mul",),), (2, 10 ** 12), "large"), ((("move",),), (NIL, 2), "nil")):
            place = self.worked(code, frame(stack=stack), depth=2, back=A)
            self.check(place, entry(inner=frame(stack=stack), depth=2, back=A, word=word))
            self.assertEqual(place.ready(), [(2,)])
            before = place.state()
            with self.assertRaises(NotAllowed):
                place.work((1,))
            self.assertEqual(place.state(), before)

    def test_bursts(self):
        code = (("push", 6), ("print",), ("push", 4), ("print",), ("jump", 4))
        place = place_with(1, [bundle(D, [entry((1,)), entry((2,))])], code)
        order = [(1,), (2,), (2,), (1,), (1,), (2,), (1,)]
        for process in order:
            place.work(process)
        self.assertEqual(place.burst(), tuple(order))
        self.assertEqual(place.prints(), (((2,), 6), ((1,), 6), ((1,), 4)))
        self.assertEqual(place.state()[8:], (place.burst(), place.prints()))
        self.assertIsNone(place.settle())
        self.assertEqual((place.burst(), place.prints(), place.state()[8:]), ((), (), ((), ())))
        place.work((2,))
        self.assertEqual((place.burst(), place.prints()), (((2,),), (((2,), 4),)))

    def test_who_cannot(self):
        rows = [entry((1,), token=None), entry((2,), word="nil"), entry((4,))]
        place = place_with(0, [bundle(A, rows)], parked=[CALL[:3] + ((5,),) + CALL[4:]])
        before = place.state()
        for process in ((1,), (2,), (3,), (5,), (), (4, 0)):
            with self.assertRaises(NotAllowed):
                place.work(process)
            self.assertEqual(place.state(), before)
        place.stop(3)
        before = place.state()
        for process in ((4,), (1,)):
            with self.assertRaises(NotAllowed):
                place.work(process)
            self.assertEqual(place.state(), before)
        place.stop(0)
        place.work((4,))
        self.assertEqual(place.burst(), ((4,),))


class Arriving(unittest.TestCase):
    """Bodies for the object A, whose home is place 0."""

    def arrived(self, me, body, bundles=(), marks=(), parked=()):
        place = place_with(me, bundles, marks=marks, parked=parked)
        self.assertIsNone(place.arrive(body))
        self.assertEqual(place.burst(), ())
        return place

    def test_call_here(self):
        for count in (-1, 0, 3, 9):
            place = self.arrived(2, counted(CALL, count), [bundle(A, [entry((0,)), entry((1,), 5)], 3)])
            called = entry((1,), 2, ("get", 0, (6, NIL, 0, 0), ()), B, (4, 2))
            self.assertEqual(place.state(), state([bundle(A, [entry((0,)), called, entry((1,), 5)], 3)], [(A, 2, 3)]))

    def test_call_of_the_maker_of_the_bundle(self):
        place = self.arrived(2, ("call", A, -1, (1, 3), 0, (), "end", (), (0, 0)), [empty(A)])
        self.assertEqual(place.bundles(), ((A, "E", (), (entry((1, 3), 0, ("end", 0, (0,), ()), (), (0, 0)),), 0),))

    def test_return_here(self):
        waits = entry((1,), 0, frame(at=2, stack=(ref(B),)), token=None)
        deeper = entry((1,), 2, frame(at=2), B, token=None)
        place = self.arrived(2, RETURN, [bundle(A, [waits, deeper], 3)])
        goes_on = entry((1,), 0, frame(at=2, stack=(ref(B), 9)))
        self.assertEqual(place.state(), state([bundle(A, [goes_on, deeper], 3)], [(A, 2, 3)]))
        place = self.arrived(2, ("return", A, 3, (1,), 2, NIL, (7, 7)), [bundle(A, [waits, deeper], 3)])
        goes_on = entry((1,), 2, frame(at=2, stack=(NIL,)), B, (7, 7))
        self.assertEqual(place.bundles(), (bundle(A, [waits, goes_on], 3),))

    def test_please_here(self):
        place = self.arrived(1, PLEASE, [bundle(A, [entry()], 3)])
        letters = ((0, ("at", A, 2, 4)), (2, ("carry", (bundle(A, [entry()], 4),))))
        self.assertEqual(place.state(), state([], [(A, 2, 4)], posted(1, *letters), given=((0, 1), (2, 1))))

    def test_please_to_this_place(self):
        place = self.arrived(2, PLEASE, [bundle(A, [entry()], 3)])
        self.assertEqual(place.state(), state([bundle(A, [entry()], 3)], [(A, 2, 3)]))

    def test_please_at_a_stopped_place(self):
        place = place_with(0, [bundle(A, [entry()], 3)])
        place.stop(6)
        place.arrive(PLEASE)
        self.assertEqual(place.state(), state(
            [], [(A, 2, 4)], posted(0, (2, ("carry", (bundle(A, [entry()], 4),)))), given=((2, 1),), stopped=6))

    def test_on_to_a_mark(self):
        for body in (CALL, RETURN, PLEASE):
            for count, mark in ((-1, 0), (-1, 7), (0, 1), (6, 7)):
                for me in (0, 2):
                    place = self.arrived(me, counted(body, count), marks=[(A, 1, mark)])
                    post = posted(me, (1, counted(body, mark)))
                    self.assertEqual(place.state(), state([], [(A, 1, mark)], post, given=((1, 1),)))

    def test_parked_for_the_count(self):
        for body in (CALL, RETURN, PLEASE):
            for count, mark in ((0, 0), (7, 7), (8, 7), (1, 0)):
                for me in (0, 2):
                    place = self.arrived(me, counted(body, count), marks=[(A, 1, mark)])
                    self.assertEqual(place.state(), state([], [(A, 1, mark)], parked=(counted(body, count),)))
                    self.assertEqual(place.parked(), (counted(body, count),))
            for me in (0, 2):
                place = self.arrived(me, counted(body, 0))
                self.assertEqual(place.state(), state([], [], parked=(counted(body, 0),)))

    def test_a_mark_of_this_place(self):
        """The bundle is said to come here, or has just gone: who knows the count waits for it."""
        for body in (CALL, RETURN, PLEASE):
            for count in (0, 6, 7):
                place = self.arrived(2, counted(body, count), marks=[(A, 2, 7)])
                self.assertEqual(place.state(), state([], [(A, 2, 7)], parked=(counted(body, count),)))
            place = self.arrived(2, body, marks=[(A, 2, 7)])
            self.assertEqual(place.state(), state([], [(A, 2, 7)], posted(2, (0, body)), given=((0, 1),)))

    def test_to_the_home(self):
        for body in (CALL, RETURN, PLEASE):
            place = self.arrived(2, body, marks=[(B, 1, 4)])
            self.assertEqual(place.state(), state([], [(B, 1, 4)], posted(2, (0, body)), given=((0, 1),)))
            place = self.arrived(0, body, marks=[(B, 1, 4)])
            self.assertEqual(place.state(), state([], [(B, 1, 4)], parked=(body,)))

    def test_at(self):
        place = self.arrived(2, ("at", A, 3, 4))
        self.assertEqual(place.state(), state([], [(A, 3, 4)]))
        place.arrive(("at", A, 1, 4))
        place.arrive(("at", A, 0, 3))
        self.assertEqual(place.state(), state([], [(A, 3, 4)]))
        place.arrive(("at", A, 1, 5))
        self.assertEqual(place.state(), state([], [(A, 1, 5)]))

    def test_at_lets_the_parked_arrive_again(self):
        other = ("please", B, 2, 3)
        bodies = (counted(CALL, 3), other, counted(RETURN, 5), counted(PLEASE, 4), counted(PLEASE, 6))
        place = self.arrived(0, ("at", A, 3, 5), parked=bodies)
        post = posted(0, (3, counted(CALL, 5)), (3, counted(PLEASE, 5)))
        self.assertEqual(place.state(), state(
            [], [(A, 3, 5)], post, parked=(other, counted(RETURN, 5), counted(PLEASE, 6)), given=((3, 2),)))

    def test_old_news_let_them_arrive_again_too(self):
        place = place_with(2, [], parked=[counted(CALL, 3), counted(PLEASE, 5)])
        before = place.state()
        place.arrive(("at", A, 3, 2))
        self.assertEqual(place.state(), before[:2] + ((((A, 3, 2),), before[2][1]),) + before[3:])
        place.arrive(("at", B, 3, 9))
        self.assertEqual(place.parked(), (counted(CALL, 3), counted(PLEASE, 5)))

    def test_again(self):
        please = ("please", B, 0, 0)
        place = place_with(0, [bundle(B)], parked=[CALL, please, RETURN])
        self.assertEqual(place.parked(), (CALL, please, RETURN))
        self.assertIsNone(place.again(A))
        self.assertIsNone(place.again(C))
        self.assertEqual(place.parked(), (please, CALL, RETURN))
        place.put(bundle(A, [entry((1,), 0, frame(at=2), token=None)]))
        self.assertEqual(place.parked(), (please, CALL, RETURN))
        place.again(B)
        self.assertEqual(place.parked(), (CALL, RETURN))
        place.again(A)
        called = entry((1,), 2, ("get", 0, (6, NIL, 0, 0), ()), B)
        goes_on = entry((1,), 0, frame(at=2, stack=(9,)))
        self.assertEqual(place.state(), state([bundle(A, [goes_on, called]), bundle(B)], [(A, 0, 0), (B, 0, 0)]))


class Announcing(unittest.TestCase):
    def test_announce(self):
        for me in range(4):
            for goal in range(4):
                for home, name in HOMES.items():
                    place = place_with(me, [])
                    self.assertIsNone(place.announce(name, goal, 2))
                    tells = home not in (me, goal)
                    self.assertEqual(place.state(), state(
                        [], [(name, goal, 2)], posted(me, (home, ("at", name, goal, 2))) if tells else NO_POST,
                        given=((home, 1),) if tells else ()))

    def test_announced_is_not_let_through(self):
        place = place_with(0, [], parked=[CALL])
        place.announce(A, 2, 3)
        self.assertEqual(place.state(), state([], [(A, 2, 3)], parked=(CALL,)))

    def test_old_news_are_told_all_the_same(self):
        place = place_with(2, [], marks=[(B, 3, 5)])
        place.announce(B, 0, 4)
        self.assertEqual(place.state(), state([], [(B, 3, 5)], posted(2, (1, ("at", B, 0, 4))), given=((1, 1),)))


STOP = ("stop", 4, 1)


class Letters(unittest.TestCase):
    def test_give(self):
        place = place_with(1, [])
        for other, body, given in ((0, PLEASE, 1), (2, CALL, 1), (0, RETURN, 2), (0, STOP, 2), (0, ("at", A, 1, 1), 3),
                                   (0, ("carry", (bundle(A),)), 4), (2, ("told", 4, 1, 1, ((), (), (), ())), 1),
                                   (3, ("drop", 4, ()), 0)):
            self.assertIsNone(place.give(other, body))
            self.assertEqual(place.given(other), given)
        self.assertEqual([letter[1:3] for letter in place.outbox()], [
            (0, 0), (2, 0), (0, 1), (0, 2), (0, 3), (0, 4), (2, 1), (3, 0)])
        self.assertEqual([place.given(other) for other in range(4)], [4, 0, 1, 0])
        self.assertEqual(place.state()[4:6], (((0, 4), (2, 1)), ()))

    def test_not_to_itself(self):
        place = place_with(1, [])
        place.give(0, PLEASE)
        before = place.state()
        for other in (1, -1):
            with self.assertRaises(NotAllowed):
                place.give(other, PLEASE)
            self.assertEqual(place.state(), before)

    def test_take(self):
        place = place_with(0, [bundle(A, [entry((1,), 0, frame(at=2), token=None)])])
        self.assertIsNone(place.take((2, 0, 1, RETURN)))
        goes_on = entry((1,), 0, frame(at=2, stack=(9,)))
        expected = state([bundle(A, [goes_on])], [(A, 0, 0)], ((), (), ((2, 0, (1,)),)), taken=((2, 1),))
        self.assertEqual(place.state(), expected)
        # Again, and as if it were another one.
        for body in (RETURN, PLEASE, ("at", A, 1, 9)):
            self.assertIsNone(place.take((2, 0, 1, body)))
            self.assertEqual(place.state(), expected)
        self.assertEqual([place.has_taken(2, k) for k in (-1, 0, 1, 2)], [False, False, True, False])
        self.assertIs(place.has_taken(1, 1), False)
        self.assertEqual(place.answers(), ((0, 2, -1, ("ack", 0, (1,))),))

    def test_what_is_counted(self):
        place = place_with(1, [])
        for number, body in enumerate((("at", A, 2, 1), STOP, ("carry", (bundle(B),)), PLEASE, ("drop", 4, (D,)), CALL)):
            place.take((3, 1, number, body))
            place.take((3, 1, number, body))
        place.take((0, 1, 7, ("at", A, 2, 3)))
        self.assertEqual([place.taken(other) for other in range(4)], [1, 0, 0, 4])
        self.assertEqual(place.state()[5], ((0, 1), (3, 4)))
        # The two that went on, behind the news of a stopped place.
        self.assertEqual([letter[3][0] for letter in place.outbox()], ["told", "please", "call"])
        self.assertEqual([place.given(other) for other in range(4)], [0, 0, 2, 0])

    def test_out_of_order(self):
        """What overtakes the bundle waits for it."""
        place = place_with(1, [])
        place.take((0, 1, 2, counted(CALL, 3)))
        place.take((0, 1, 3, counted(PLEASE, 3)))
        self.assertEqual(place.parked(), (counted(CALL, 3), counted(PLEASE, 3)))
        place.take((0, 1, 1, ("carry", (bundle(A, count=3),))))
        called = entry((1,), 2, ("get", 0, (6, NIL, 0, 0), ()), B)
        letters = ((0, ("at", A, 2, 4)), (2, ("carry", (bundle(A, [called], 4),))))
        post = posted(1, *letters)[:2] + (((0, 0, (1, 2, 3)),),)
        self.assertEqual(place.state(), state([], [(A, 2, 4)], post, given=((0, 1), (2, 1)), taken=((0, 3),)))

    def test_acknowledgements(self):
        place = place_with(1, [])
        for other, body in ((0, PLEASE), (2, PLEASE), (0, CALL), (0, RETURN)):
            place.give(other, body)
        place.take((0, 1, -1, ("ack", 1, (2,))))
        post = (((1, 2, 0, PLEASE), (1, 0, 1, CALL)), ((0, 3), (2, 1)), ())
        self.assertEqual(place.state(), state([], [], post, given=((0, 3), (2, 1))))
        self.assertEqual(place.outbox(), post[0])
        place.take((0, 1, -1, ("ack", 0, ())))
        self.assertEqual(place.state(), state([], [], post, given=((0, 3), (2, 1))))
        self.assertEqual(place.answers(), ())


class Carrying(unittest.TestCase):
    def attached(self, name, *others, count=0, entries=()):
        """A bundle whose attached fields refer to two others."""
        return bundle(name, entries, count, (ref(others[0]), 8, ref(others[1]) if len(others) > 1 else NIL))

    def test_carry(self):
        rows = [entry((0,), token=None), entry((1,), word="nil"), entry((2,), 3, back=B)]
        place = place_with(1, [bundle(A, rows, 5), bundle(B, rows)])
        self.assertIsNone(place.carry(A, 3))
        letters = ((0, ("at", A, 3, 6)), (3, ("carry", (bundle(A, rows, 6),))))
        self.assertEqual(place.state(), state(
            [bundle(B, rows)], [(A, 3, 6), (B, 1, 0)], posted(1, *letters), given=((0, 1), (3, 1))))

    def test_carry_to_the_home(self):
        place = place_with(1, [bundle(A, count=5)])
        place.carry(A, 0)
        self.assertEqual(place.state(), state([], [(A, 0, 6)], posted(1, (0, ("carry", (bundle(A, count=6),)))), given=((0, 1),)))

    def test_carry_with_what_is_attached(self):
        ring = [self.attached(C, B, count=2), self.attached(B, D, A, count=7), self.attached(D, C, ((9,), 9)), bundle(A),
                self.attached(((), 4), C), bundle(((), 5), fields=(5, ref(A), NIL))]
        place = place_with(1, ring)
        place.carry(C, 2)
        gone = (bundle(A, count=1), self.attached(B, D, A, count=8), self.attached(C, B, count=3),
                self.attached(D, C, ((9,), 9), count=1))
        letters = ((0, ("at", A, 2, 1)), (3, ("at", D, 2, 1)), (2, ("carry", gone)))
        marks = [(A, 2, 1), (B, 2, 8), (C, 2, 3), (D, 2, 1), (((), 4), 1, 0), (((), 5), 1, 0)]
        self.assertEqual(place.state(), state(ring[4:], marks, posted(1, *letters), given=((0, 1), (2, 1), (3, 1))))

    def test_only_what_is_attached_goes(self):
        left = [bundle(B), bundle(C), self.attached(D, A)]
        place = place_with(1, [bundle(A, [entry(inner=frame(stack=(ref(B),)))], fields=(NIL, ref(C), NIL))] + left)
        place.carry(A, 3)
        self.assertEqual(place.bundles(), tuple(left))

    def test_the_order_of_the_names(self):
        names = [((), 10), ((), 9), ((0,), 1)]
        place = place_with(1, [self.attached(names[0], names[1], names[2]), bundle(names[1]), bundle(names[2])])
        place.carry(names[0], 3)
        self.assertEqual([letter[3][:2] for letter in place.outbox()[:-1]], [("at", names[0]), ("at", names[2])])
        self.assertEqual([one[0] for one in place.outbox()[-1][3][1]], [names[1], names[0], names[2]])

    def test_not_allowed(self):
        place = place_with(1, [bundle(A)], marks=[(B, 2, 3)])
        before = place.state()
        for name, goal in ((B, 2), (B, 1), (FIRST[:1] + (9,), 0), (A, 1), (A, 4), (A, -1), (A, 10 ** 12), (B, -1)):
            with self.assertRaises(NotAllowed):
                place.carry(name, goal)
            self.assertEqual(place.state(), before)
        place.stop(2)
        before = place.state()
        with self.assertRaises(NotAllowed):
            place.carry(A, 0)
        self.assertEqual(place.state(), before)

    def test_no_other_place(self):
        place = Place(image_of(()), 1, 0)
        place.put(bundle(A))
        for goal in (0, 1, -1):
            with self.assertRaises(NotAllowed):
                place.carry(A, goal)

    def test_a_carry_arrives(self):
        rows = [entry((0,), token=None), entry((2,), 3, back=B)]
        place = place_with(2, [bundle(B)], marks=[(A, 1, 2), (D, 1, 9)])
        self.assertIsNone(place.arrive(("carry", (bundle(A, rows, 3), bundle(D, count=4)))))
        self.assertEqual(place.state(), state([bundle(A, rows, 3), bundle(B), bundle(D, count=4)], [(A, 2, 3), (B, 2, 0), (D, 1, 9)]))

    def test_each_kind_that_waits(self):
        bodies = [counted(RETURN, 3), ("call", B, 1, (1, 0), 0, (), "end", (), (0, 0)), counted(CALL, 7), ("please", C, 0, 1),
                  counted(PLEASE, 3)]
        place = place_with(2, [], parked=bodies)
        waits = entry((1,), 0, frame(at=2), token=None)
        place.arrive(("carry", (bundle(A, [waits], 3), bundle(B, count=1))))
        called = entry((1,), 2, ("get", 0, (6, NIL, 0, 0), ()), B)
        goes_on = entry((1,), 0, frame(at=2, stack=(9,)))
        forked = entry((1, 0), 0, ("end", 0, (), ()), token=(0, 0))
        self.assertEqual(place.state(), state(
            [bundle(A, [goes_on, called], 3), bundle(B, [forked], 1)], [(A, 2, 3), (B, 2, 1)], parked=(("please", C, 0, 1),)))

    def test_in_the_order_of_the_names(self):
        place = place_with(2, [], parked=[("please", D, 1, 1), ("please", A, 1, 3), ("please", C, 1, 0)])
        place.arrive(("carry", (bundle(C, count=1), bundle(D, count=1), bundle(A, count=1))))
        self.assertEqual([letter[3][1][0][0] for letter in place.outbox() if letter[3][0] == "carry"], [A, C, D])

    def test_what_waits_may_carry_it_away(self):
        waits = entry((1,), 0, frame(at=2), token=None)
        bodies = [counted(CALL, 3), ("please", A, 2, 3), counted(RETURN, 3), ("please", A, 3, 1)]
        place = place_with(2, [], parked=bodies)
        place.arrive(("carry", (bundle(A, [waits], 3),)))
        called = entry((1,), 2, ("get", 0, (6, NIL, 0, 0), ()), B)
        letters = ((0, ("at", A, 3, 4)), (3, ("carry", (bundle(A, [waits, called], 4),))), (3, counted(RETURN, 4)),
                   (3, ("please", A, 4, 1)))
        self.assertEqual(place.state(), state([], [(A, 3, 4)], posted(2, *letters), given=((0, 1), (3, 3))))

    def test_carried_away_with_another_one(self):
        """Those that wait for the second bundle find that it has gone with the first one."""
        pair = (self.attached(A, B, count=3), bundle(B, count=5))
        place = place_with(2, [], parked=[("call", B, 5, (1, 0), 0, (), "end", (), (0, 0)), ("please", A, 3, 3)])
        place.arrive(("carry", pair))
        letters = ((0, ("at", A, 3, 4)), (1, ("at", B, 3, 6)), (3, ("carry", (self.attached(A, B, count=4), bundle(B, count=6)))),
                   (3, ("call", B, 6, (1, 0), 0, (), "end", (), (0, 0))))
        self.assertEqual(place.state(), state([], [(A, 3, 4), (B, 3, 6)], posted(2, *letters), given=((0, 1), (1, 1), (3, 2))))


class Dropping(unittest.TestCase):
    def test_drop(self):
        place = place_with(1, [bundle(A), bundle(B, [entry()]), bundle(C)], marks=[(D, 2, 4)], parked=[("please", D, 4, 0)])
        names = [C, A, D, ((7,), 7)]
        self.assertIsNone(place.drop(names))
        self.assertEqual(names, [C, A, D, ((7,), 7)])
        self.assertEqual(place.state(), state([bundle(B, [entry()])], [(B, 1, 0)], parked=(("please", D, 4, 0),)))
        place.drop([])
        place.drop([A])
        self.assertEqual(place.state(), state([bundle(B, [entry()])], [(B, 1, 0)], parked=(("please", D, 4, 0),)))
        place.put(bundle(A))
        place.drop([A, A, B])
        self.assertEqual((place.bundles(), place.ready()), ((), []))

    def test_it_stays_stopped(self):
        place = place_with(1, [bundle(A)])
        place.stop(3)
        place.drop([A])
        self.assertEqual(place.state(), state([], [], stopped=3))


class States(unittest.TestCase):
    def made(self):
        code = (("push", 6), ("print",), ("push", 4), ("print",), ("jump", 4))
        place = place_with(0, [bundle(B, [entry((1,)), entry((2,), inner=frame("get", 1, (6, 7, 0, 0), (3,)))])], code,
                           marks=[(D, 2, 4)], parked=[CALL])
        place.take((3, 0, 1, ("at", C, 3, 1)))
        place.give(1, STOP)
        place.give(3, PLEASE)
        place.work((1,))
        place.work((1,))
        place.work((2,))
        place.note((4, 1, ()))
        return place

    def test_state(self):
        place = self.made()
        place.stop(4)
        rows = [entry((1,), inner=frame(at=2))]
        post = (((0, 1, 0, STOP), (0, 3, 0, PLEASE)), ((1, 1), (3, 1)), ((3, 0, (1,)),))
        self.assertEqual(place.state(), (
            (bundle(B, rows),), post, (((B, 0, 0), (C, 3, 1), (D, 2, 4)), (CALL,)), (((2,), (4, 2), 3),), ((3, 1),), ((3, 1),), 4,
            (4, 1, ()), ((1,), (1,), (2,)), (((1,), 6),)))

    def test_copy(self):
        changes = (
            lambda place: place.put(bundle(A)), lambda place: place.work((1,)), lambda place: place.arrive(("please", B, -1, 2)),
            lambda place: place.take((3, 0, 0, ("at", C, 3, 0))), lambda place: place.take((1, 0, -1, ("ack", 1, ()))),
            lambda place: place.give(1, STOP), lambda place: place.announce(A, 2, 9), lambda place: place.carry(B, 2),
            lambda place: place.drop([B]), lambda place: place.drop([D]), lambda place: place.stop(9),
            lambda place: place.note((9, 0, ())), lambda place: place.settle(), lambda place: place.arrive(PLEASE),
            lambda place: place.arrive(("at", A, 1, 3)), lambda place: [place.work((1,)), place.work((1,))],
            lambda place: place.take((3, 0, 7, ("carry", (bundle(A, [entry((1,), token=None)]),)))),
        )
        before = self.made().state()
        for change in changes:
            place = self.made()
            twin = place.copy()
            self.assertIsInstance(twin, Place)
            self.assertEqual((twin.state(), twin.me(), twin.places()), (before, 0, 4))
            change(twin)
            self.assertEqual(place.state(), before)
            changed = twin.state()
            self.assertNotEqual(changed, before)
            twin = place.copy()
            change(place)
            self.assertEqual((place.state(), twin.state()), (changed, before))

    def test_a_copy_is_of_the_same_image(self):
        twin = self.made().copy()
        twin.work((1,))
        twin.work((1,))
        self.assertEqual(twin.prints(), (((1,), 6), ((1,), 4)))

    def test_what_is_returned_is_not_kept(self):
        place = self.made()
        before = place.state()
        place.ready().clear()
        for value in before:
            self.assertIsInstance(value, int if value == 0 else tuple)
        for value in (place.bundles(), place.ended(), place.parked(), place.outbox(), place.burst(), place.prints(), place.answers()):
            self.assertIsInstance(value, tuple)
        self.assertEqual(place.state(), before)


if __name__ == "__main__":
    unittest.main()
