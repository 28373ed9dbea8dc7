"""Points 23, 24 and 25, and 3 of them: tables."""

import copy
import unittest

from ledpast.facts import holds
from ledpast.tables import stands, table_of
from ledpast.walkers import Walker
from made import NAMES, Made, made_plans, plain_run
from worked import plain_stands, plain_table

LONG = 10 ** 40 - 1
LONGER = 10 ** 60 - 1
STOP = ("stop",)
TELL = ("tell", "a")
NOUGHT = (("a", (0, 0)),)
# It counts from 0 to 10 and stops; piece 3 is not come to.
TEN = (
    ((("put", "a", 0),), ("go", 1)),
    ((), ("less", "a", 10, 2, 4)),
    ((("add", "a", 1),), ("go", 1)),
    ((), ("go", 1)),
    ((TELL,), STOP),
)
TEN_TABLE = (NOUGHT, (("a", (0, None)),), (("a", (0, 9)),), None, (("a", (10, None)),))
# The one that is told: the end of piece 2 that was opened for 1 is not closed by the 9 behind it.
TEN_TOLD = (NOUGHT, (("a", (0, None)),), (("a", (0, None)),), None, (("a", (10, None)),))


def put_at(things, at, thing):
    return things[:at] + (thing,) + things[at + 1:]


def a(low, high):
    return (("a", (low, high)),)


class TableCase(unittest.TestCase):
    def check(self, plan, table, told):
        self.assertIs(stands(plan, table), told, (plan, table))

    def yes(self, plan, table):
        self.check(plan, table, True)

    def no(self, plan, table):
        self.check(plan, table, False)


class Stands(TableCase):
    def test_some(self):
        self.yes(TEN, TEN_TABLE)
        self.yes(TEN, (NOUGHT, a(0, 10), a(0, 9), None, a(10, 10)))
        self.yes(TEN, ((), (), (), (), ()))
        self.no(TEN, (NOUGHT, a(0, 10), a(0, 9), None, a(11, 11)))

    def test_an_entry_for_each_piece(self):
        for table in ((), TEN_TABLE[:-1], TEN_TABLE + (None,), TEN_TABLE + ((),), TEN_TABLE[:1]):
            self.no(TEN, table)
        self.no((((), STOP),), ())
        self.yes((((), STOP),), ((),))
        self.no((((), STOP),), ((), ()))
        self.no((((), STOP),), ((), None))

    def test_the_entry_of_piece_nought_is_facts(self):
        self.no((((), STOP),), (None,))
        self.no(TEN, put_at(TEN_TABLE, 0, None))
        self.no(TEN, (None,) * 5)

    def test_they_hold_where_all_names_are_worth_nought(self):
        for low, high, told in ((0, 0, True), (-1, 0, True), (0, 1, True), (None, 0, True), (0, None, True),
                                (1, 1, False), (-1, -1, False), (1, None, False), (None, -1, False),
                                (-LONGER, LONGER, True), (LONG, LONGER, False)):
            self.check((((), STOP),), (a(low, high),), told)
            self.check((((), STOP),), ((("a", (0, 0)), ("zzz", (low, high))),), told)

    def test_the_others_need_not_hold_there(self):
        self.yes((((), STOP), ((), STOP)), ((), a(5, 5)))

    def test_an_entry_none_where_nothing_leads(self):
        self.yes((((), STOP), ((), ("go", 0))), ((), None))
        self.yes((((), STOP), ((), ("go", 2)), ((), STOP)), (NOUGHT, None, None))

    def test_an_entry_none_to_which_one_with_facts_leads(self):
        self.no((((), ("go", 1)), ((), STOP)), ((), None))
        # Piece 1 is not come to, but its entry is facts, and it leads on.
        self.no((((), STOP), ((), ("go", 2)), ((), STOP)), ((), (), None))
        self.yes((((), STOP), ((), ("go", 2)), ((), STOP)), ((), (), ()))
        self.no(TEN, put_at(TEN_TABLE, 4, None))

    def test_of_an_entry_none_no_lead_is_asked(self):
        plan = (((), STOP), ((("put", "a", 5),), ("go", 2)), ((), STOP))
        self.yes(plan, ((), None, NOUGHT))
        self.no(plan, ((), (), NOUGHT))
        self.yes(plan, ((), (), a(5, 5)))

    def test_a_lead_is_covered(self):
        plan = (((("read", "a"),), ("less", "a", 3, 1, 2)), ((), STOP), ((), STOP))
        for yes, no, told in (((None, 2), (3, None), True), ((None, 3), (2, None), True), ((None, 1), (3, None), False),
                              ((None, 2), (4, None), False), ((3, None), (None, 2), False), ((-9, 2), (3, None), False),
                              ((None, 2), (3, LONGER), False)):
            self.check(plan, (NOUGHT, (("a", yes),), (("a", no),)), told)

    def test_a_side_that_is_not_taken_is_not_asked(self):
        for test, told in ((("less", "a", 1, 1, 2), True), (("less", "a", 0, 2, 1), True), (("is", "a", 0, 1, 2), True),
                           (("is", "a", 1, 2, 1), True), (("less", "a", 0, 1, 2), False), (("is", "a", 0, 2, 1), False)):
            plan = (((), test), ((), STOP), ((), STOP))
            self.check(plan, (NOUGHT, NOUGHT, None), told)
        # By facts that know nothing both sides are taken.
        self.no((((), ("less", "a", 1, 1, 2)), ((), STOP), ((), STOP)), ((), (), None))

    def test_facts_are_taken_behind_the_deeds(self):
        plan = (((("put", "a", LONG), ("add", "a", 1), ("copy", "b", "a")), ("go", 1)), ((), STOP))
        top = LONG + 1
        self.yes(plan, ((), (("a", (top, top)), ("b", (top, top)))))
        self.yes(plan, ((), (("b", (LONG, LONGER)),)))
        self.no(plan, ((), (("b", (LONG, LONG)),)))
        self.no(plan, ((), (("c", (0, 0)),)))
        self.yes(plan, ((("c", (0, 0)),), (("c", (0, 0)),)))

    def test_a_round_is_covered_by_itself(self):
        plan = (((("add", "a", 1),), ("go", 0)),)
        self.no(plan, (NOUGHT,))
        self.no(plan, (a(0, LONGER),))
        self.yes(plan, (a(0, None),))
        self.yes(plan, (a(-7, None),))
        self.no(plan, (a(None, 9),))

    def test_spoilt_at_one_place(self):
        for at, entry in (
            (0, None), (0, a(1, 1)), (0, a(-1, -1)), (1, None), (1, a(1, None)), (1, a(0, 9)), (1, a(0, 0)),
            (2, None), (2, a(1, 9)), (2, a(0, 8)), (2, (("b", (1, 1)),)), (4, None), (4, a(11, None)),
            (4, a(10, 10)), (3, a(-1, 3)), (3, ()),
        ):
            self.no(TEN, put_at(TEN_TABLE, at, entry))
        for at, entry in ((0, ()), (0, a(-5, 5)), (2, a(0, 9)), (2, a(0, 10)), (4, ()), (3, a(0, 10)), (3, a(5, 5))):
            self.yes(TEN, put_at(TEN_TABLE, at, entry))

    def test_four_hundred_pieces(self):
        plan = tuple([((("add", "a", 1),), ("go", at + 1)) for at in range(399)]) + (((), STOP),)
        table = tuple([a(at, at) for at in range(400)])
        self.yes(plan, table)
        self.assertEqual(table_of(plan), table)
        for at in (0, 1, 200, 398, 399):
            self.no(plan, put_at(table, at, a(at + 1, at + 1)))
            self.no(plan, put_at(table, at, None))
            self.check(plan, put_at(table, at, a(at, at + 1)), at == 399)


class Spoilt(TableCase):
    def spoilt(self, made, table):
        for at, entry in enumerate(table):
            yield put_at(table, at, None)
            yield put_at(table, at, ())
            yield put_at(table, at, made.one_of(table))
            for place, (name, (low, high)) in enumerate(entry or ()):
                yield put_at(table, at, entry[:place] + entry[place + 1:])
                for one in (-1, 1):
                    ends = (low if low is None else low + one, high), (low, high if high is None else high + one)
                    for bounds in ends + ((None, high), (low, None)):
                        if bounds != (None, None) and (None in bounds or bounds[0] <= bounds[1]):
                            yield put_at(table, at, put_at(entry, place, (name, bounds)))
        yield table[:-1]
        yield table + (None,)

    def steps_hold(self, plan, table, numbers):
        """Where a table stands, the facts hold whenever a walker comes to a piece."""
        walker = Walker(plan)
        walker.hand(numbers)
        self.assertTrue(holds(table[0], {}))
        for _ in range(60):
            many = len(plain_run(plan, numbers, walker.steps())[2])
            walker.go(1)
            if len(plain_run(plan, numbers, walker.steps())[2]) > many:
                entry = table[walker.piece()]
                self.assertIsNotNone(entry, (plan, table))
                self.assertTrue(holds(entry, {name: walker.worth(name) for name in NAMES}), (plan, table, numbers))

    def test_spoilt_ones(self):
        made, counts = Made(67), {True: 0, False: 0}
        for plan in made_plans(80, 6):
            for table in [table_of(plan)] + list(self.spoilt(made, table_of(plan))):
                told = plain_stands(plan, table)
                self.check(plan, table, told)
                counts[told] += 1
                if told and not made.below(4):
                    self.steps_hold(plan, table, made.numbers(5))
        self.assertGreater(min(counts.values()), 300)


class Told(TableCase):
    def made(self, plan, table):
        self.assertEqual(table_of(plan), table, plan)
        self.yes(plan, table)

    def test_the_start(self):
        self.made((((), STOP),), ((),))
        self.made((((TELL, ("tell", "b")), STOP),), ((("a", (0, 0)), ("b", (0, 0))),))
        self.made((((), STOP), ((TELL,), STOP)), (NOUGHT, None))

    def test_a_lead_to_an_entry_none(self):
        self.made((((("put", "a", 4),), ("go", 1)), ((("add", "a", 2),), ("go", 2)), ((), STOP)),
                  (NOUGHT, a(4, 4), a(6, 6)))

    def test_a_side_that_is_not_taken_stays_none(self):
        self.made((((), ("less", "a", 1, 1, 2)), ((), STOP), ((), STOP)), (NOUGHT, NOUGHT, None))
        self.made((((), ("is", "a", 1, 1, 2)), ((), STOP), ((), STOP)), (NOUGHT, None, NOUGHT))

    def test_ends_are_opened_and_stay_open(self):
        self.made(TEN, TEN_TOLD)
        down = ((((), ("go", 1))), ((), ("less", "a", -9, 2, 3)), ((), STOP), ((("add", "a", -1),), ("go", 1)))
        self.made(down, (NOUGHT, a(None, 0), a(None, -10), a(None, 0)))

    def test_a_lead_that_is_covered_changes_nothing(self):
        plan = (((("read", "a"),), ("less", "a", 5, 1, 2)), ((), ("go", 3)), ((), ("go", 3)), ((), STOP))
        # Piece 3 has (None, 4) first; what comes from piece 2 lies above it.
        self.made(plan, (NOUGHT, a(None, 4), a(5, None), ()))
        plan = (((("read", "a"),), ("less", "a", 5, 1, 2)), ((), ("less", "a", 3, 3, 3)), ((), STOP), ((), STOP))
        self.made(plan, (NOUGHT, a(None, 4), a(5, None), ()))

    def test_each_end_by_itself(self):
        def two(first, second):
            return (
                ((("read", "b"),), ("is", "b", 0, 1, 2)),
                ((("put", "a", first),), ("go", 3)),
                ((("put", "a", second),), ("go", 3)),
                ((), STOP),
            )
        nought, known = (("b", (0, 0)),), ("a", (0, 0))
        for first, second, last in ((3, 3, a(3, 3)), (3, 4, a(3, None)), (3, 2, a(None, 3))):
            self.made(two(first, second), ((known,) + nought, (known,) + nought, (known,), last))

    def test_both_ends_at_once_and_left_out(self):
        plan = (
            ((("put", "a", 1), ("read", "b")), ("less", "b", 0, 1, 2)),
            ((), ("go", 3)),
            ((("read", "a"),), ("go", 3)),
            ((), STOP),
        )
        self.made(plan, (
            (("a", (0, 0)), ("b", (0, 0))), (("a", (1, 1)), ("b", (None, -1))), (("a", (1, 1)), ("b", (0, None))), (),
        ))

    def test_only_names_whose_stretch_does_not_suffice_are_opened(self):
        plan = (
            ((("put", "a", 1), ("put", "b", 5), ("read", "c")), ("is", "c", 0, 1, 2)),
            ((), ("go", 3)),
            ((("put", "b", 6),), ("go", 3)),
            ((), STOP),
        )
        self.assertEqual(table_of(plan)[3], (("a", (1, 1)), ("b", (5, None))))

    def test_names_that_the_entry_lacks_stay_out(self):
        plan = (
            ((("read", "a"), ("read", "b")), ("less", "b", 0, 1, 2)),
            ((), ("go", 3)),
            ((("put", "a", 6), ("put", "b", -3)), ("go", 3)),
            ((), STOP),
        )
        self.assertEqual(table_of(plan)[3], (("b", (None, -1)),))

    def test_the_least_that_waits_is_taken_first(self):
        # Piece 1 leads back ahead of 2, so 3 sees what 1 knows in the end alone.
        plan = (
            ((), ("go", 1)),
            ((("add", "a", 1),), ("less", "a", 3, 1, 2)),
            ((("add", "b", 1),), ("is", "b", 4, 4, 3)),
            ((), ("go", 1)),
            ((TELL,), STOP),
        )
        self.made(plan, plain_table(plan))

    def test_a_piece_that_leads_to_itself(self):
        self.made((((("add", "a", 1),), ("go", 0)),), (a(0, None),))
        # Both leads come of the entry as it was when the piece was taken.
        self.made((((("add", "a", 1),), ("less", "a", 3, 0, 1)), ((), STOP)), (a(0, None), a(3, None)))
        self.made((((("add", "a", 1),), ("less", "a", 3, 0, 0)),), (a(0, None),))

    def test_made_ones(self):
        for plan in made_plans(500, 9):
            table = plain_table(plan)
            self.assertEqual(table_of(plan), table, plan)
            self.yes(plan, table)

    def test_rounds_of_four_hundred(self):
        plan = tuple([((("add", "a", 1), TELL), ("less", "a", 3 * at, at, (at + 1) % 400)) for at in range(400)])
        self.made(plan, plain_table(plan))
        back = tuple([((("add", "a", 1),), ("is", "a", at, (at + 7) % 400, (at - 1) % 400)) for at in range(400)])
        self.made(back, plain_table(back))

    def test_many_names(self):
        letters = "abcdefghijklmnopqrst"
        plan = tuple([
            ((("add", letters[at % 20], 1), ("copy", letters[(at + 1) % 20], letters[(at + 2) % 20])),
             ("less", letters[at % 20], 5, (at + 1) % 60, (at * 7) % 60)) for at in range(60)
        ])
        self.made(plan, plain_table(plan))


class Kept(unittest.TestCase):
    def test_nothing_handed_in_is_changed(self):
        held = copy.deepcopy((TEN, TEN_TABLE))
        self.assertEqual([table_of(TEN) for _ in range(2)], [TEN_TOLD] * 2)
        self.assertEqual([stands(TEN, TEN_TABLE) for _ in range(2)], [True] * 2)
        self.assertEqual((TEN, TEN_TABLE), held)

    def test_told_are_tuples(self):
        for entry in table_of(TEN):
            if entry is not None:
                self.assertIs(entry.__class__, tuple)
                for pair in entry:
                    self.assertEqual((pair.__class__, pair[1].__class__), (tuple, tuple))
        self.assertIs(table_of(TEN).__class__, tuple)


if __name__ == "__main__":
    unittest.main()
