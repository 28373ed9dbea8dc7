"""Points 20 and 21, and 3 of them: short plans."""

import copy
import unittest

from ledpast.plans import is_plan
from ledpast.runs import run
from ledpast.short import short
from beside import NoMoreSteps
from made import made_plans
from worked import idle_plans, plain_short

STOP = ("stop",)
TELL = (("tell", "a"),)
DONE = ((("tell", "a"), ("tell", "b")), STOP)


def go(at):
    return ((), ("go", at))


class Pieces(unittest.TestCase):
    def check(self, plan, told, numbers):
        self.assertEqual(short(plan), (told, numbers), plan)
        self.assertTrue(is_plan(short(plan)[0]))

    def test_a_plan_without_idle_pieces(self):
        plan = ((TELL, ("go", 1)), ((), ("less", "a", 2, 0, 2)), DONE)
        self.check(plan, plan, (0, 1, 2))
        self.check((DONE,), (DONE,), (0,))

    def test_an_idle_piece_is_left_out(self):
        self.check(((TELL, ("go", 1)), go(2), DONE), ((TELL, ("go", 1)), DONE), (0, 2))
        self.check(((TELL, ("less", "a", 0, 1, 2)), go(3), go(0), DONE),
                   ((TELL, ("less", "a", 0, 1, 0)), DONE), (0, 3))

    def test_a_chain_of_them(self):
        self.check(((TELL, ("go", 3)), DONE, go(1), go(4), go(2)), ((TELL, ("go", 1)), DONE), (0, 1))

    def test_nought_is_followed_too(self):
        self.check((go(2), DONE, go(1)), (DONE,), (1,))
        self.check((go(1), (TELL, ("go", 0))), ((TELL, ("go", 0)),), (1,))

    def test_a_piece_that_goes_to_itself(self):
        self.check((go(0),), (go(0),), (0,))
        self.check((go(1), go(1)), (go(0),), (1,))
        self.check(((TELL, ("less", "a", 0, 1, 2)), go(1), DONE), ((TELL, ("less", "a", 0, 1, 2)), go(1), DONE), (0, 1, 2))

    def test_a_round_is_its_least_piece(self):
        self.check((go(1), go(0)), (go(0),), (0,))
        self.check((go(3), go(2), go(3), go(1)), (go(0),), (1,))
        self.check(((TELL, ("go", 3)), go(2), go(3), go(1)), ((TELL, ("go", 1)), go(1)), (0, 1))

    def test_what_lies_ahead_of_a_round_is_no_part_of_it(self):
        self.check((go(1), go(2), go(3), go(2)), (go(0),), (2,))
        self.check((go(5), go(5), go(4), go(2), go(3), go(4)), (go(0),), (2,))
        self.check((go(1), go(4), DONE, DONE, go(6), go(4), go(5)), (go(0),), (4,))

    def test_two_rounds(self):
        self.check(((TELL, ("is", "a", 0, 4, 1)), go(2), go(1), go(4), go(3)),
                   ((TELL, ("is", "a", 0, 1, 2)), go(1), go(2)), (0, 3, 1))

    def test_deeds_or_another_end_make_a_piece_not_idle(self):
        for piece in (((("add", "a", 0),), ("go", 2)), ((("put", "b", 0),), ("go", 2)), ((), ("less", "a", 0, 2, 2)),
                      ((), STOP), ((("read", "a"),), ("go", 2))):
            plan = ((TELL, ("go", 1)), piece, DONE)
            told = plan if piece != ((), STOP) else plan[:2]
            self.check(plan, told, tuple(range(len(told))))

    def test_numbered_as_they_come_up_yes_ahead_of_no(self):
        plan = ((TELL, ("less", "a", 0, 3, 1)), ((), ("is", "a", 0, 2, 4)), DONE, ((), ("is", "a", 1, 4, 5)),
                (TELL, STOP), go(0))
        self.check(plan, (
            (TELL, ("less", "a", 0, 1, 2)), ((), ("is", "a", 1, 3, 0)), ((), ("is", "a", 0, 4, 3)), (TELL, STOP), DONE,
        ), (0, 3, 1, 4, 2))

    def test_pieces_to_which_nothing_leads_are_left_out(self):
        self.check((DONE, (TELL, ("go", 0)), go(1)), (DONE,), (0,))
        # All ways to piece 1 lead through an idle one that is left out itself.
        self.check((go(2), go(3), DONE, (TELL, STOP)), (DONE,), (2,))

    def test_both_ways_of_a_test_to_one_piece(self):
        self.check(((TELL, ("less", "a", 5, 1, 2)), go(3), go(3), DONE), ((TELL, ("less", "a", 5, 1, 1)), DONE), (0, 3))

    def test_made_plans(self):
        for plan in idle_plans(600, 9) + made_plans(100, 6):
            self.check(plan, *plain_short(plan))

    def test_an_idle_piece_only_where_it_goes_to_itself(self):
        for plan in idle_plans(300, 8):
            for at, (deeds, end) in enumerate(short(plan)[0]):
                self.assertFalse(deeds == () and end[0] == "go" and end[1] != at, plan)

    def test_the_short_one_is_as_short_as_can_be(self):
        for plan in idle_plans(200, 8):
            told = short(plan)[0]
            self.check(told, told, tuple(range(len(told))))


class Long(unittest.TestCase):
    def check(self, plan, told, numbers):
        self.assertTrue(is_plan(plan))
        self.assertEqual(short(plan), (told, numbers))

    def test_a_chain_of_four_hundred(self):
        self.check(tuple([go(at + 1) for at in range(399)]) + (DONE,), (DONE,), (399,))
        back = (go(399), DONE) + tuple([go(at - 1) for at in range(2, 400)])
        self.check(back, (DONE,), (1,))

    def test_a_round_of_four_hundred(self):
        self.check(tuple([go((at + 1) % 400) for at in range(400)]), (go(0),), (0,))
        self.check(tuple([go((at - 1) % 400) for at in range(400)]), (go(0),), (0,))

    def test_a_chain_into_a_round(self):
        plan = tuple([go(at + 1) for at in range(399)]) + (go(200),)
        self.check(plan, (go(0),), (200,))
        self.check(tuple([go(at + 1) for at in range(399)]) + (go(399),), (go(0),), (399,))

    def test_many_leads_into_long_chains(self):
        tests = tuple([((), ("less", "a", at, at + 1, 200 + at)) for at in range(199)]) + (DONE,)
        chain = tuple([go(200 + (at + 1) % 200) for at in range(200)])
        told, numbers = short(tests + chain)
        self.assertEqual(numbers, tuple([0, 1, 200] + list(range(2, 200))))
        self.assertEqual(told[2], go(2))
        self.assertEqual(short(tests + chain), plain_short(tests + chain))

    def test_four_hundred_pieces_that_are_not_idle(self):
        plan = tuple([(TELL, ("go", (at + 1) % 400)) for at in range(400)])
        self.check(plan, plan, tuple(range(400)))


class Runs(NoMoreSteps, unittest.TestCase):
    def rows(self):
        return [(plan, short(plan)[0], len(plan) + 1) for plan in idle_plans(250, 7)]

    def test_far_fewer_steps(self):
        plan = ((TELL, ("go", 1)),) + tuple([go((at + 2) % 400) for at in range(399)])
        self.assertEqual(run(plan, (), 401), ("on", (0,)))
        self.assertEqual(run(plan, (), 402), ("on", (0, 0)))
        self.assertEqual(run(short(plan)[0], (), 401), ("on", (0,) * 201))


class Kept(unittest.TestCase):
    def test_nothing_handed_in_is_changed(self):
        for plan in idle_plans(20, 7):
            held = copy.deepcopy(plan)
            self.assertEqual(short(plan), short(plan))
            self.assertEqual(plan, held)

    def test_told_are_tuples(self):
        told = short((go(1), go(2), DONE))
        self.assertIs(told.__class__, tuple)
        self.assertTrue(is_plan(told[0]))
        self.assertIs(told[1].__class__, tuple)
        self.assertEqual([at.__class__ for at in told[1]], [int])


if __name__ == "__main__":
    unittest.main()
