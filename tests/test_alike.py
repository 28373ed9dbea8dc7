"""Points 28 to 31, and 3 of them: alike pieces, partings and joined plans."""

import copy
import unittest

from ledpast.alike import alike, joined, parting
from ledpast.facts import behind, leads
from ledpast.papers import paper_holds
from ledpast.plans import is_plan, ways_on
from ledpast.runs import run, run_at, seen
from made import NAMES, Made, made_plans
from worked import plain_alike, plain_joined, plain_parting

STOP = ("stop",)
TELL, OTHER = (("tell", "a"),), (("tell", "b"),)


def few_forms(many, most):
    """Made plans whose pieces have few forms, so that many are alike, or part late."""
    made, plans = Made(many + 41 * most), []
    for at in range(many):
        count, pieces = 1 + at % most, []
        for _ in range(count):
            one, other = made.below(count), made.below(count)
            end = made.one_of((("go", one), ("less", "a", 0, one, other), ("less", "a", 0, one, other), STOP))
            pieces.append((made.one_of(((), (), (), TELL)), end))
        plans.append(tuple(pieces))
    return plans


def ring(many, odd=None):
    """A ring of pieces, one of which may be odd."""
    return tuple([(OTHER if at == odd else TELL, ("go", (at + 1) % many)) for at in range(many)])


def unfolded(made, plan):
    """Another plan with some copies of each piece, and a paper that knows nothing."""
    copies = [0] + [at for at in range(len(plan)) for _ in range(made.below(3) + (at > 0))]
    places = {at: [place for place, other in enumerate(copies) if other == at] for at in range(len(plan))}
    pieces = []
    for at in copies:
        deeds, end = plan[at]
        led = tuple([made.one_of(places[way]) for way in ways_on(end)])
        pieces.append((deeds, end[:len(end) - len(led)] + led))
    return tuple(pieces), tuple([(at, ()) for at in copies])


class Alike(unittest.TestCase):
    def check(self, plan, *told):
        self.assertTrue(is_plan(plan))
        self.assertEqual(alike(plan), told, plan)

    def test_one_piece(self):
        self.check((((), STOP),), 0)
        self.check(((TELL, ("go", 0)),), 0)

    def test_deeds(self):
        self.check(((TELL, STOP), (OTHER, STOP), (TELL, STOP), ((), STOP), (TELL + TELL, STOP)), 0, 1, 0, 3, 4)
        self.check((((("put", "a", 1),), STOP), ((("put", "a", 2),), STOP), ((("add", "a", 1),), STOP)), 0, 1, 2)
        self.check(((TELL + OTHER, STOP), (OTHER + TELL, STOP)), 0, 1)

    def test_ends_but_for_their_p(self):
        plan = (
            ((), ("less", "a", 1, 5, 5)), ((), ("less", "a", 2, 5, 5)), ((), ("is", "a", 1, 5, 5)), ((), ("less", "b", 1, 5, 5)),
            ((), ("go", 5)), ((), STOP), ((), ("less", "a", 1, 5, 7)), ((), STOP),
        )
        self.check(plan, 0, 1, 2, 3, 4, 5, 0, 5)

    def test_pieces_of_one_form_that_lead_to_unlike_ones(self):
        plan = (((), ("go", 2)), ((), ("go", 3)), (TELL, STOP), (OTHER, STOP), ((), ("go", 2)))
        self.check(plan, 0, 1, 2, 3, 0)

    def test_yes_and_no_are_not_exchanged(self):
        plan = (((), ("less", "a", 0, 2, 3)), ((), ("less", "a", 0, 3, 2)), (TELL, STOP), (OTHER, STOP))
        self.check(plan, 0, 1, 2, 3)

    def test_deeds_that_only_do_the_same_are_not_the_same(self):
        self.check((((), STOP), ((("add", "a", 0),), STOP)), 0, 1)
        # A go is no test whose both ways lead to one piece.
        self.check((((), ("go", 2)), ((), ("less", "a", 0, 2, 2)), ((), STOP)), 0, 1, 2)

    def test_rounds(self):
        self.check(((TELL, ("go", 1)), (TELL, ("go", 0))), 0, 0)
        self.check(((TELL, ("go", 1)), (TELL, ("go", 1))), 0, 0)
        self.check(((TELL, ("go", 1)), (OTHER, ("go", 2)), (TELL, ("go", 3)), (OTHER, ("go", 0))), 0, 1, 0, 1)
        self.check(((TELL, ("go", 1)), (OTHER, ("go", 2)), (TELL, ("go", 3)), (TELL, ("go", 0))), 0, 1, 2, 3)

    def test_pieces_that_are_not_reached_count(self):
        self.check((((), STOP), (TELL, ("go", 1)), (TELL, ("go", 2)), ((), STOP)), 0, 1, 1, 0)

    def test_rings_of_four_hundred(self):
        self.check(ring(400), *[0] * 400)
        for odd in (0, 1, 200, 399):
            self.check(ring(400, odd), *range(400))
        two = tuple([(OTHER if at % 200 == 7 else TELL, ("go", (at + 1) % 400)) for at in range(400)])
        self.check(two, *list(range(200)) * 2)

    def test_a_row_of_four_hundred(self):
        row = tuple([((), ("go", at + 1)) for at in range(399)]) + (((), STOP),)
        self.check(row, *range(400))
        two = tuple([((), ("go", at + 1)) if at % 200 != 199 else ((), STOP) for at in range(400)])
        self.check(two, *list(range(200)) * 2)

    def test_made_plans(self):
        joint = 0
        for plan in few_forms(300, 8) + made_plans(100, 7):
            self.check(plan, *plain_alike(plan))
            joint += len(set(alike(plan))) < len(plan)
        self.assertGreater(joint, 100)

    def test_runs_at_alike_pieces_are_alike(self):
        made = Made(83)
        for plan in few_forms(150, 8):
            for at, least in enumerate(alike(plan)):
                worths, numbers = {name: made.number() for name in NAMES}, made.numbers(4)
                for steps in (1, 5, 30):
                    self.assertEqual(run_at(plan, at, worths, numbers, steps), run_at(plan, least, worths, numbers, steps))


class Parting(unittest.TestCase):
    def check(self, plan, one, other, told):
        self.assertEqual(parting(plan, one, other), told, (plan, one, other))
        self.assertEqual(parting(plan, other, one), told, (plan, one, other))

    def test_at_once_unlike(self):
        plan = ((TELL, STOP), (OTHER, STOP), (TELL, ("go", 0)), (TELL, ("is", "a", 0, 0, 0)), (TELL, ("is", "a", 1, 0, 0)))
        for one in range(5):
            for other in range(5):
                self.check(plan, one, other, None if one == other else ())

    def test_alike(self):
        self.check(((TELL, ("go", 1)), (TELL, ("go", 0))), 0, 1, None)
        self.check((((), STOP), ((), STOP)), 0, 1, None)
        self.check((((), STOP),), 0, 0, None)

    def test_by_go(self):
        plan = (((), ("go", 2)), ((), ("go", 3)), ((), ("go", 4)), ((), ("go", 5)), (TELL, STOP), (OTHER, STOP))
        self.check(plan, 4, 5, ())
        self.check(plan, 2, 3, ("go",))
        self.check(plan, 0, 1, ("go", "go"))
        self.check(plan, 0, 2, ("go",))

    def test_by_yes_and_by_no(self):
        plan = (((), ("less", "a", 0, 3, 4)), ((), ("less", "a", 0, 4, 4)), ((), ("less", "a", 0, 3, 3)), (TELL, STOP), (OTHER, STOP))
        self.check(plan, 0, 1, ("yes",))
        self.check(plan, 0, 2, ("no",))
        # Both would do; as texts, no is the lesser one.
        self.check(plan, 1, 2, ("no",))

    def test_fewest_sides_ahead_of_the_least(self):
        plan = (
            ((), ("less", "a", 0, 2, 4)), ((), ("less", "a", 0, 3, 5)), (TELL, STOP), (OTHER, STOP),
            ((), ("go", 2)), ((), ("go", 3)),
        )
        self.check(plan, 0, 1, ("yes",))

    def test_the_least_by_the_first_side(self):
        plan = (
            ((), ("less", "a", 0, 2, 4)), ((), ("less", "a", 0, 3, 5)),
            ((), ("is", "a", 0, 6, 7)), ((), ("is", "a", 0, 6, 6)),
            ((), ("is", "a", 0, 6, 6)), ((), ("is", "a", 0, 7, 6)),
            (TELL, STOP), (OTHER, STOP),
        )
        # yes no parts them, and so does no yes, the lesser one.
        self.check(plan, 2, 3, ("no",))
        self.check(plan, 4, 5, ("yes",))
        self.check(plan, 0, 1, ("no", "yes"))

    def test_the_pieces_that_were_told_apart_may_be_come_to_by_one_of_both_alone(self):
        plan = (((), ("less", "a", 0, 0, 1)), ((), ("less", "a", 0, 1, 2)), (TELL, STOP))
        self.check(plan, 0, 1, ("no",))

    def test_many_sides(self):
        for odd in (0, 1, 200, 399):
            plan = ring(400, odd)
            for one, other in ((odd, (odd + 1) % 400), ((odd + 1) % 400, (odd + 2) % 400), ((odd + 3) % 400, (odd + 203) % 400)):
                # The first of both that comes to the odd piece parts them.
                told = min((odd - one) % 400, (odd - other) % 400)
                self.check(plan, one, other, ("go",) * told)
        self.check(ring(400), 0, 399, None)
        row = tuple([((), ("less", "a", 0, at, at + 1)) for at in range(399)]) + (((), STOP),)
        self.check(row, 0, 1, ("no",) * 398)
        self.check(row, 397, 399, ())
        back = (((), STOP),) + tuple([((), ("less", "a", 0, at, max(1, at - 1))) for at in range(1, 400)])
        self.check(back, 398, 399, None)

    def test_many_pairs(self):
        plan = tuple([(TELL, ("less", "a", 0, at * 7 % 400, at * 11 % 399)) for at in range(400)])
        self.check(plan, 3, 5, None)
        one_odd = plan[:399] + ((OTHER, ("go", 0)),)
        told = parting(one_odd, 3, 5)
        ends = []
        for at in (3, 5):
            for side in told:
                at = one_odd[at][1][3 if side == "yes" else 4]
            ends.append(at)
        self.assertEqual(sorted(ends)[1], 399)

    def test_made_plans(self):
        lengths = set()
        for plan in few_forms(120, 6) + made_plans(30, 4):
            for one in range(len(plan)):
                for other in range(one + 1):
                    told = plain_parting(plan, one, other)
                    self.check(plan, one, other, told)
                    lengths.add(told if told is None else len(told))
        self.assertEqual({None, 0, 1, 2, 3} - lengths, set())

    def test_none_just_where_they_are_alike(self):
        for plan in few_forms(100, 9):
            least = alike(plan)
            for one in range(len(plan)):
                for other in range(len(plan)):
                    self.assertEqual(parting(plan, one, other) is None, least[one] == least[other])


class Joined(unittest.TestCase):
    def check(self, plan, told, numbers):
        self.assertEqual(joined(plan), (told, numbers), plan)

    def test_nothing_to_join(self):
        plan = ((TELL, ("less", "a", 0, 1, 2)), (OTHER, ("go", 0)), ((), STOP))
        self.check(plan, plan, (0, 1, 2))
        self.check((((), STOP),), (((), STOP),), (0,))

    def test_alike_pieces_are_one(self):
        plan = ((TELL, ("less", "a", 0, 1, 2)), (OTHER, STOP), (OTHER, STOP))
        self.check(plan, ((TELL, ("less", "a", 0, 1, 1)), (OTHER, STOP)), (0, 1, 1))
        self.check(((TELL, ("go", 1)), (TELL, ("go", 0))), ((TELL, ("go", 0)),), (0, 0))

    def test_numbered_as_they_come_up_yes_ahead_of_no(self):
        plan = ((TELL, ("less", "a", 0, 3, 1)), (OTHER, ("go", 4)), ((), STOP), ((), ("is", "a", 0, 2, 1)), ((), STOP))
        self.check(plan, (
            (TELL, ("less", "a", 0, 1, 2)), ((), ("is", "a", 0, 3, 2)), (OTHER, ("go", 3)), ((), STOP),
        ), (0, 2, 3, 1, 3))

    def test_gone_through_in_that_order(self):
        plan = ((TELL, ("less", "a", 0, 4, 3)), ((), STOP), (OTHER, STOP), (OTHER, ("go", 2)), (TELL, ("go", 1)))
        self.check(plan, (
            (TELL, ("less", "a", 0, 1, 2)), (TELL, ("go", 3)), (OTHER, ("go", 4)), ((), STOP), (OTHER, STOP),
        ), (0, 3, 4, 2, 1))

    def test_pieces_that_are_left_out(self):
        plan = (((), STOP), (TELL, ("go", 1)), ((), ("go", 1)))
        self.check(plan, (((), STOP),), (0, None, None))

    def test_a_piece_that_is_not_reached_but_alike_to_one_that_is(self):
        plan = (((), ("go", 3)), (TELL, ("go", 2)), (OTHER, STOP), (TELL, ("go", 4)), (OTHER, STOP), (OTHER, ("go", 1)))
        # The least of those that are alike is not reached, but has their deeds and end.
        self.check(plan, (((), ("go", 1)), (TELL, ("go", 2)), (OTHER, STOP)), (0, 1, 2, 1, 2, None))

    def test_piece_nought_is_alike_to_others(self):
        plan = (((), ("go", 1)), ((), ("go", 2)), ((), ("go", 0)))
        self.check(plan, (((), ("go", 0)),), (0, 0, 0))

    def test_rings_of_four_hundred(self):
        self.check(ring(400), ((TELL, ("go", 0)),), (0,) * 400)
        self.check(ring(400, 200), ring(400, 200), tuple(range(400)))
        two = tuple([(OTHER if at % 200 == 7 else TELL, ("go", (at + 1) % 400)) for at in range(400)])
        self.check(two, ring(200, 7), tuple(range(200)) * 2)

    def test_made_plans(self):
        for plan in few_forms(300, 8) + made_plans(100, 7):
            self.check(plan, *plain_joined(plan))

    def test_they_tell_the_same_step_by_step(self):
        made = Made(89)
        for plan in few_forms(150, 8) + made_plans(100, 6):
            (told, places), numbers = joined(plan), made.numbers(5)
            for steps in list(range(12)) + [50]:
                self.assertEqual(run(told, numbers, steps), run(plan, numbers, steps))
                self.assertEqual(seen(told, numbers, steps), tuple([places[at] for at in seen(plan, numbers, steps)]))

    def test_no_two_pieces_of_it_are_alike(self):
        for plan in few_forms(200, 8):
            told = joined(plan)[0]
            self.assertTrue(is_plan(told))
            self.assertEqual(alike(told), tuple(range(len(told))))
            self.assertEqual(joined(told), (told, tuple(range(len(told)))))


class Papers(unittest.TestCase):
    def test_a_paper_that_knows_nothing(self):
        made, asked = Made(97), 0
        for plan in few_forms(150, 7) + made_plans(150, 7):
            other, paper = unfolded(made, plan)
            self.assertTrue(paper_holds(plan, other, paper))
            if all([len(leads(behind((), deeds), end)) == len(ways_on(end)) for deeds, end in plan]):
                asked += 1
                self.assertEqual(joined(plan)[0], joined(other)[0])
        self.assertGreater(asked, 100)

    def test_where_a_test_is_answered_by_its_own_deeds(self):
        plan = (((("put", "a", 1),), ("is", "a", 1, 1, 0)), ((), STOP))
        other = (((("put", "a", 1),), ("go", 1)), ((), STOP))
        self.assertTrue(paper_holds(plan, other, ((0, ()), (1, ()))))
        self.assertNotEqual(joined(plan)[0], joined(other)[0])


class Kept(unittest.TestCase):
    def test_nothing_handed_in_is_changed(self):
        for plan in few_forms(20, 7):
            held = copy.deepcopy(plan)
            first = (alike(plan), joined(plan), parting(plan, 0, len(plan) - 1))
            self.assertEqual((alike(plan), joined(plan), parting(plan, 0, len(plan) - 1)), first)
            self.assertEqual(plan, held)

    def test_told_are_tuples(self):
        plan = (((), ("go", 2)), ((), ("go", 0)), (TELL, STOP))
        self.assertIs(alike(plan).__class__, tuple)
        self.assertIs(parting(plan, 0, 1).__class__, tuple)
        self.assertIs(parting(plan, 0, 2).__class__, tuple)
        told = joined(plan)
        self.assertTrue(is_plan(told[0]))
        self.assertEqual((told.__class__, told[1].__class__), (tuple, tuple))


if __name__ == "__main__":
    unittest.main()
