import random
import unittest

from portage.errors import NotAllowed
from portage.gather import agree, control, report, start_round, unheld
from portage.place import Place
from tests.stands import HOMES, NIL, bundle, empty, entry, frame, image_of, place_with, posted, ref, state

A, B, C, D = HOMES[0], HOMES[1], HOMES[2], HOMES[3]
E, F, G = ((0,), 0), ((), 10), ((2, 1), 0)
PLEASE = ("please", A, -1, 2)
NOTHING = ((), (), (0, 0, 0, 0), (0, 0, 0, 0))


class Report(unittest.TestCase):
    def test_empty(self):
        for me in range(4):
            self.assertEqual(report(place_with(me, [])), NOTHING)
        self.assertEqual(report(Place(image_of(()), 1, 0)), ((), (), (0,), (0,)))

    def test_fields(self):
        rows = [bundle(C, fields=(ref(F), 3, ref(B))), bundle(A, fields=(ref(G), ref(B), ref(G))), empty(E), bundle(D, fields=(7, NIL, NIL))]
        self.assertEqual(report(place_with(0, rows)), (
            ((A, (B, G), None), (C, (B, F), None), (D, (), None), (E, (), None)),) + NOTHING[1:])

    def test_frames(self):
        rows = [entry((0,), inner=frame(held=(ref(G), 5), stack=(ref(A), NIL, ref(B))), token=None),
                entry((1,), 4, frame(held=(ref(F), ref(B)), stack=()), ((7,), 7)),
                entry((2,), inner=frame(held=(), stack=(ref(E),)), word="large")]
        place = place_with(0, [bundle(A, rows, fields=(ref(D), ref(A), NIL)), bundle(B, [entry()]), bundle(C)])
        self.assertEqual(report(place), (
            ((A, (A, D), (A, B, F, E, G)), (B, (), ()), (C, (), None)),) + NOTHING[1:])

    def test_waiting(self):
        bodies = [("call", E, 3, (1,), 2, ((7,), 7), "get", (ref(G), 6, ref(A), NIL), (0, 0)),
                  ("return", D, 3, (1,), 2, ref(F), (0, 0)),
                  ("please", C, 3, 1),
                  ("return", E, 3, (1,), 2, NIL, (0, 0)),
                  ("call", A, 3, (1,), 2, ((7,), 7), "end", (), (0, 0))]
        self.assertEqual(report(place_with(1, [], parked=bodies)), ((), (A, D, F, E, G)) + NOTHING[2:])
        for body, names in zip(bodies, ((A, E, G), (D, F), (), (E,), (A,))):
            self.assertEqual(report(place_with(1, [], parked=[body])), ((), names) + NOTHING[2:])

    def test_numbers(self):
        place = place_with(2, [], marks=[(A, 1, 5)])
        for other, body in ((0, PLEASE), (3, PLEASE), (0, ("stop", 1, 1)), (0, PLEASE)):
            place.give(other, body)
        for sender, number, body in ((1, 0, ("at", A, 1, 2)), (1, 1, ("at", B, 1, 3)), (1, 1, ("at", B, 1, 3)), (3, 5, PLEASE)):
            place.take((sender, 2, number, body))
        # The last one has gone on to place 1.
        self.assertEqual(report(place), ((), (), (2, 1, 0, 1), (0, 2, 0, 1)))

    def test_nothing_changes(self):
        place = place_with(0, [bundle(A, [entry()])], parked=[("please", B, 3, 3)])
        before = place.state()
        report(place)
        self.assertEqual(place.state(), before)


def rows_of(*rows):
    return (rows, (), (0, 0), (0, 0))


def waiting_for(*names):
    return ((), names, (0, 0), (0, 0))


def counts(given, taken):
    return ((), (), given, taken)


class Agree(unittest.TestCase):
    def test_one_place(self):
        self.assertIs(agree([((), (), (0,), (0,))]), True)

    def test_two_places(self):
        self.assertIs(agree([counts((0, 3), (0, 5)), counts((5, 0), (3, 0))]), True)
        for first, second in (((3, 4), (5, 3)), ((3, 5), (4, 3)), ((3, 5), (5, 2)), ((2, 5), (5, 3)), ((3, 3), (5, 5))):
            reports = [counts((0, first[0]), (0, first[1])), counts((second[0], 0), (second[1], 0))]
            self.assertIs(agree(reports), False, reports)

    def test_each_pair(self):
        chance = random.Random(4)
        numbers = [[0 if p == q else chance.randrange(1, 5) for q in range(4)] for p in range(4)]
        reports = [counts(tuple(numbers[p]), tuple([numbers[q][p] for q in range(4)])) for p in range(4)]
        self.assertIs(agree(reports), True)
        for p in range(4):
            for q in range(4):
                for more in (-1, 1):
                    if p != q:
                        wrong = [list(row) for row in numbers]
                        wrong[p][q] += more
                        changed = list(reports)
                        changed[p] = counts(tuple(wrong[p]), reports[p][3])
                        self.assertIs(agree(changed), False)
                        changed = list(reports)
                        changed[q] = counts(reports[q][2], tuple([wrong[k][q] for k in range(4)]))
                        self.assertIs(agree(changed), False)
        self.assertIs(agree(reports), True)

    def test_rows_do_not_count(self):
        self.assertIs(agree([rows_of((A, (B,), None)), waiting_for(C)]), True)


class Unheld(unittest.TestCase):
    def check(self, expected, *reports):
        given = list(reports)
        self.assertEqual(unheld(given), expected)
        self.assertEqual(given, list(reports))

    def test_nothing(self):
        self.check((), rows_of())
        self.check((), rows_of(), rows_of())

    def test_not_at_all(self):
        self.check((A, B, F, E), rows_of((B, (), None), (E, (), None)), rows_of((A, (), None), (F, (), None)))

    def test_by_frames(self):
        self.check((B,), rows_of((A, (), ()), (B, (), None)))
        self.check((), rows_of((A, (), ())), rows_of((B, (), ())))

    def test_by_references_of_frames(self):
        self.check((D,), rows_of((A, (), (B, C)), (B, (), None)), rows_of((C, (), None), (D, (), None)))

    def test_by_waiting_bodies(self):
        self.check((A,), rows_of((A, (), None), (B, (), None)), waiting_for(B, C))
        self.check((), rows_of((A, (), None)), waiting_for(A))

    def test_through_fields(self):
        self.check((D,), rows_of((A, (B,), ()), (C, (E,), None)), rows_of((B, (C,), None), (D, (A,), None), (E, (), None)))
        self.check((D,), rows_of((C, (E,), None)), rows_of((B, (C,), None), (D, (B,), None), (E, (), None)), waiting_for(B))

    def test_rings(self):
        ring = ((A, (B,), None), (B, (C,), None), (C, (A,), None))
        self.check((A, B, C), rows_of(*ring))
        self.check((A, B, C), rows_of(*ring, (D, (), ())))
        self.check((), rows_of(*ring, (D, (C,), ())))
        self.check((D,), rows_of(*ring, (D, (C,), None)), waiting_for(A))
        self.check((D,), rows_of((D, (D,), None)))

    def test_who_holds_is_not_held(self):
        self.check((A, B), rows_of((A, (C,), None), (B, (C,), None), (C, (), ())))

    def test_without_a_row(self):
        self.check((A,), rows_of((A, (), None), (B, (G,), (F,))), waiting_for(E))

    def test_long_rows(self):
        names = [((), k) for k in range(3000)]
        rows = tuple([(names[k], (names[k + 1],), None) for k in range(2999)]) + ((names[2999], (), None),)
        self.check(tuple(names[:1500]), rows_of(*rows), waiting_for(names[1500]))


class Begin(unittest.TestCase):
    def test_begin(self):
        place = place_with(0, [bundle(A, [entry()]), bundle(B)])
        self.assertIsNone(start_round(place))
        stop = ("stop", 1, 1)
        self.assertEqual(place.state(), state(
            [bundle(A, [entry()]), bundle(B)], [(A, 0, 0), (B, 0, 0)], posted(0, (1, stop), (2, stop), (3, stop)), stopped=1,
            notes=(1, 1, ())))

    def test_stopped(self):
        for turn in (1, 5):
            place = place_with(0, [bundle(A)])
            place.stop(turn)
            before = place.state()
            with self.assertRaises(NotAllowed):
                start_round(place)
            self.assertEqual(place.state(), before)

    def test_numbers_count_on(self):
        place = place_with(0, [])
        place.note((7, 0, ()))
        start_round(place)
        self.assertEqual((place.stopped(), place.notes()), (8, (8, 1, ())))
        self.assertEqual([letter[3] for letter in place.outbox()], [("stop", 8, 1)] * 3)

    def test_one_place(self):
        place = Place(image_of(()), 1, 0)
        place.put(bundle(A, [entry(inner=frame(stack=(ref(B),)))]))
        place.put(bundle(B, fields=(ref(C), NIL, NIL)))
        place.put(bundle(D, fields=(ref(A), ref(D), NIL)))
        place.put(empty(C))
        place.put(empty(E))
        left = place.bundles()[:3]
        for turn in (1, 2, 3):
            start_round(place)
            self.assertEqual(place.state(), state(left, [(A, 0, 0), (B, 0, 0), (C, 0, 0)], notes=(turn, 0, ())))
        place.drop([A])
        start_round(place)
        self.assertEqual(place.state(), state([], [], notes=(4, 0, ())))


class Stops(unittest.TestCase):
    def test_stop(self):
        for turn, wave, before in ((1, 1, 0), (4, 2, 4), (4, 3, 2)):
            place = place_with(2, [bundle(A, [entry()]), bundle(B, fields=(ref(A), NIL, NIL))], parked=[("please", C, 4, 0)])
            place.stop(before)
            self.assertIsNone(control(place, 0, ("stop", turn, wave)))
            told = (((A, (), ()), (B, (A,), None)),) + NOTHING[1:]
            self.assertEqual(place.state(), state(
                [bundle(A, [entry()]), bundle(B, fields=(ref(A), NIL, NIL))], [(A, 2, 0), (B, 2, 0)],
                posted(2, (0, ("told", turn, wave, 2, told))), parked=(("please", C, 4, 0),), stopped=turn))

    def test_the_numbers_of_the_report(self):
        place = place_with(3, [])
        place.give(0, PLEASE)
        place.take((1, 3, 0, PLEASE))
        place.take((0, 3, 0, ("stop", 2, 1)))
        self.assertEqual(place.outbox()[-1], (3, 0, 2, ("told", 2, 1, 3, ((), (), (2, 0, 0, 0), (0, 1, 0, 0)))))
        self.assertEqual(place.stopped(), 2)
        # A letter of a round counts neither way.
        self.assertEqual((place.given(0), place.taken(0)), (2, 0))

    def test_it_goes_on_to_take(self):
        place = place_with(1, [bundle(A)], (("return",),))
        place.take((0, 1, 0, ("stop", 1, 1)))
        place.take((2, 1, 0, ("call", A, 0, (5,), 0, (), "end", (), (0, 0))))
        place.take((2, 1, 1, ("please", B, 0, 0)))
        place.take((2, 1, 2, ("at", C, 3, 8)))
        place.take((2, 1, 3, ("call", C, 2, (6,), 0, (), "end", (), (0, 0))))
        self.assertEqual(place.ready(), [(5,)])
        with self.assertRaises(NotAllowed):
            place.work((5,))
        self.assertEqual([letter[3][0] for letter in place.outbox()], ["told", "call"])
        self.assertEqual(place.parked(), (("please", B, 0, 0),))
        place.take((0, 1, 1, ("stop", 1, 2)))
        self.assertEqual(place.outbox()[-1][3], (
            "told", 1, 2, 1, (((A, (), ()),), (), (0, 0, 0, 1), (0, 0, 4, 0))))


def drop(turn, *names):
    return ("drop", turn, names)


class Drops(unittest.TestCase):
    def place(self, turn):
        place = place_with(1, [bundle(A), bundle(B, [entry()])], marks=[(C, 2, 3)])
        place.stop(turn)
        return place

    def test_in_this_round(self):
        place = self.place(4)
        self.assertIsNone(control(place, 0, drop(4, A, C, D)))
        self.assertEqual(place.state(), state([bundle(B, [entry()])], [(B, 1, 0)]))

    def test_in_another_round(self):
        for turn in (3, 5, 1):
            place = self.place(turn)
            control(place, 0, drop(4, A, C))
            self.assertEqual(place.state(), state([bundle(B, [entry()])], [(B, 1, 0)], stopped=turn))

    def test_not_stopped(self):
        place = self.place(0)
        control(place, 0, drop(4, C))
        self.assertEqual(place.state(), state([bundle(A), bundle(B, [entry()])], [(A, 1, 0), (B, 1, 0)]))

    def test_nothing(self):
        place = self.place(4)
        place.take((0, 1, 3, drop(4)))
        self.assertEqual(place.bundles(), (bundle(A), bundle(B, [entry()])))
        self.assertEqual((place.stopped(), place.notes()), (0, ()))
        place.work((1,))


class Told(unittest.TestCase):
    """What comes to place 0 in its round 5, wave 2."""

    def place(self):
        place = place_with(0, [bundle(A, [entry(inner=frame(stack=(ref(E),)))]), bundle(B), bundle(C, fields=(ref(B), NIL, NIL))])
        place.stop(5)
        place.note((5, 2, ()))
        return place

    def told(self, place, other, found, turn=5, wave=2):
        body = ("told", turn, wave, other, found)
        self.assertIsNone(control(place, other, body))

    def report(self, *rows, waiting=(), given=(0, 0, 0, 0), taken=(0, 0, 0, 0)):
        return (rows, waiting, given, taken)

    def test_they_are_kept(self):
        place = self.place()
        before = place.state()
        first, second = self.report((D, (), None)), self.report(waiting=(E,))
        self.told(place, 3, first)
        self.assertEqual(place.state(), before[:7] + ((5, 2, ((3, first),)),) + before[8:])
        self.told(place, 1, second)
        self.assertEqual(place.state(), before[:7] + ((5, 2, ((1, second), (3, first))),) + before[8:])

    def test_in_the_place_of_an_earlier_one(self):
        place = self.place()
        first, second = self.report((D, (), None)), self.report(waiting=(E,))
        self.told(place, 3, first)
        self.told(place, 2, first)
        self.told(place, 3, second)
        self.assertEqual(place.notes(), (5, 2, ((2, first), (3, second))))
        self.told(place, 3, first)
        self.told(place, 3, first)
        self.assertEqual(place.notes(), (5, 2, ((2, first), (3, first))))
        self.assertEqual((place.stopped(), place.outbox()), (5, ()))

    def test_old_ones(self):
        place = self.place()
        self.told(place, 1, self.report())
        self.told(place, 2, self.report())
        before = place.state()
        for turn, wave in ((5, 1), (4, 2), (6, 2), (5, 3), (2, 5), (0, 0)):
            for other in (1, 3):
                self.told(place, other, self.report((A, (), None)), turn, wave)
                self.assertEqual(place.state(), before)

    def test_without_a_round(self):
        for notes in ((), (5, 0, ())):
            place = place_with(0, [bundle(A)])
            place.note(notes)
            before = place.state()
            for turn, wave in ((5, 1), (1, 1), (5, 2)):
                self.told(place, 1, self.report(), turn, wave)
                self.assertEqual(place.state(), before)

    def test_all_agree(self):
        place = self.place()
        place.arrive(("at", D, 3, 0))
        self.told(place, 3, self.report((D, (C,), None), (E, (F,), None), (G, (), None)))
        self.told(place, 1, self.report((F, (), None)))
        names = (B, C, D, G)
        self.told(place, 2, self.report())
        body = ("drop", 5, names)
        self.assertEqual(place.state(), state(
            [bundle(A, [entry(inner=frame(stack=(ref(E),)))])], [(A, 0, 0)], posted(0, (1, body), (2, body), (3, body)),
            notes=(5, 0, ())))

    def test_all_agree_with_numbers_and_waiting(self):
        place = self.place()
        place.give(2, PLEASE)
        place.take((3, 0, 0, ("at", D, 3, 0)))
        self.told(place, 3, self.report((D, (C,), None), given=(1, 6, 0, 0)))
        self.told(place, 1, self.report(waiting=(D,), taken=(0, 0, 0, 6)))
        self.told(place, 2, self.report(taken=(1, 0, 0, 0)))
        self.assertEqual([letter[3] for letter in place.outbox()[1:]], [("drop", 5, ())] * 3)
        self.assertEqual([one[0] for one in place.bundles()], [A, B, C])
        self.assertEqual((place.stopped(), place.notes()), (0, (5, 0, ())))

    def test_they_do_not_agree(self):
        for reports in ({1: self.report(given=(1, 0, 0, 0))}, {1: self.report(given=(0, 0, 1, 0))},
                        {2: self.report(taken=(0, 1, 0, 0))}, {3: self.report(taken=(2, 0, 0, 0))}):
            place = self.place()
            before = place.state()
            for other in (2, 3, 1):
                self.told(place, other, reports.get(other, self.report()))
            stop = ("stop", 5, 3)
            self.assertEqual(place.state(), before[:1] + (posted(0, (1, stop), (2, stop), (3, stop)),) + before[2:7] + (
                (5, 3, ()),) + before[8:])
            # The same again does not count any more; those of the new wave do.
            behind = place.state()
            self.told(place, 1, self.report())
            self.assertEqual(place.state(), behind)
            for other in (1, 2, 3):
                self.told(place, other, self.report(), wave=3)
            self.assertEqual((place.stopped(), place.notes()), (0, (5, 0, ())))
            self.assertEqual([letter[3] for letter in place.outbox()[3:]], [("drop", 5, (B, C))] * 3)

    def test_its_own_report_is_that_of_the_look(self):
        place = self.place()
        self.told(place, 1, self.report(given=(1, 0, 0, 0)))
        self.told(place, 2, self.report())
        place.take((1, 0, 0, ("at", D, 3, 0)))
        place.arrive(("call", B, -1, (7,), 0, (), "end", (), (0, 0)))
        self.told(place, 3, self.report())
        self.assertEqual([letter[3] for letter in place.outbox()], [("drop", 5, (C,))] * 3)

    def test_two_places(self):
        place = Place(image_of(()), 2, 0)
        place.put(bundle(A))
        start_round(place)
        control(place, 1, ("told", 1, 1, 1, rows_of((B, (A,), ()))))
        self.assertEqual(place.state(), state(
            [bundle(A)], [(A, 0, 0)], posted(0, (1, ("stop", 1, 1)), (1, ("drop", 1, ()))), notes=(1, 0, ())))

    def test_by_letters(self):
        """The bodies come to it through `take`, each letter once."""
        place = place_with(0, [bundle(A), bundle(B, [entry()])])
        start_round(place)
        for other, number in ((2, 0), (2, 0), (1, 4), (3, 0), (3, 0), (2, 0)):
            place.take((other, 0, number, ("told", 1, 1, other, self.report())))
        self.assertEqual([letter[3] for letter in place.outbox()], [("stop", 1, 1)] * 3 + [("drop", 1, (A,))] * 3)
        self.assertEqual((place.stopped(), place.notes(), place.bundles()), (0, (1, 0, ()), (bundle(B, [entry()]),)))
        self.assertEqual([place.taken(other) for other in range(4)], [0, 0, 0, 0])


if __name__ == "__main__":
    unittest.main()
