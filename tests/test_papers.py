"""Points 18 and 19, and 3 of them: which papers are let by, and that two plans with one tell the same."""

import copy
import unittest

from ledpast.led import led_past
from ledpast.papers import paper_holds
from ledpast.plans import is_plan
from ledpast.runs import run, seen
from made import Made, made_plans, plain_paper

LONG = 10 ** 40 - 1
LONGER = 10 ** 60 - 1
STOP = ("stop",)
PUT = (("put", "a", 1),)
NOUGHT, ONE, SOME = (("a", (0, 0)),), (("a", (1, 1)),), (("a", (1, 5)),)
# The plan, the one led past, and its paper.
PLAN = (
    ((("read", "b"),), ("less", "b", 0, 1, 2)),
    (PUT, ("go", 3)),
    ((("put", "a", 2),), ("go", 3)),
    ((("tell", "a"),), ("is", "a", 1, 4, 0)),
    ((("tell", "b"),), STOP),
)
BELOW, ABOVE = ("b", (None, -1)), ("b", (0, None))
PAST = (
    ((("read", "b"),), ("less", "b", 0, 1, 2)),
    (PUT, ("go", 3)),
    ((("put", "a", 2),), ("go", 4)),
    ((("tell", "a"),), ("go", 5)),
    ((("tell", "a"),), ("go", 0)),
    ((("tell", "b"),), STOP),
)
PAPER = (
    (0, ()), (1, (BELOW,)), (2, (ABOVE,)), (3, (("a", (1, 1)), BELOW)), (3, (("a", (2, 2)), ABOVE)),
    (4, (("a", (1, 1)), BELOW)),
)


def put_at(things, at, thing):
    return things[:at] + (thing,) + things[at + 1:]


class PaperCase(unittest.TestCase):
    def check(self, plan, other, paper, told):
        self.assertIs(paper_holds(plan, other, paper), told, (plan, other, paper))

    def yes(self, plan, other, paper):
        self.check(plan, other, paper, True)

    def no(self, plan, other, paper):
        self.check(plan, other, paper, False)


class LetBy(PaperCase):
    def test_the_plan_led_past(self):
        self.assertEqual(led_past(PLAN, 300), (PAST, PAPER))
        self.yes(PLAN, PAST, PAPER)

    def test_a_plan_is_its_own_other(self):
        for plan in made_plans(60, 7) + [PLAN, PAST]:
            self.yes(plan, plan, tuple([(at, ()) for at in range(len(plan))]))

    def test_four_hundred_pieces(self):
        plan = tuple([((), ("go", at + 1)) for at in range(399)]) + (((), STOP),)
        self.yes(plan, plan, tuple([(at, ()) for at in range(400)]))
        self.no(plan, plan, tuple([(at, ()) for at in range(399)]) + ((0, ()),))

    def test_wider_facts(self):
        self.yes(PLAN, PAST, put_at(PAPER, 5, (4, ())))
        self.yes(PLAN, PAST, put_at(PAPER, 4, (3, (("a", (2, 9)),))))
        self.yes(PLAN, PAST, put_at(PAPER, 4, (3, (("a", (2, None)),))))
        # By these the answer would be open, and the other one has a go there.
        self.no(PLAN, PAST, put_at(PAPER, 4, (3, (("a", (1, None)),))))
        self.no(PLAN, PAST, put_at(PAPER, 3, (3, (("a", (None, 1)), BELOW))))

    def test_pieces_with_copies_in_another_order(self):
        other = (PAST[0][0], ("less", "b", 0, 2, 1)), (PAST[2][0], ("go", 4)), (PUT, ("go", 3))
        self.yes(PLAN, other + PAST[3:], (PAPER[0], PAPER[2], PAPER[1]) + PAPER[3:])

    def test_facts_of_names_that_the_plan_lacks(self):
        self.yes((((), STOP),), (((), STOP),), ((0, (("zzz", (0, 0)),)),))
        self.yes((((), ("go", 0)),), (((), ("go", 0)),), ((0, (("zzz", (-1, LONGER)),)),))


class Counts(PaperCase):
    def test_a_copy_more_or_less(self):
        self.no(PLAN, PAST, PAPER[:-1])
        self.no(PLAN, PAST, PAPER + PAPER[-1:])
        self.no(PLAN, PAST, ())
        self.no(PLAN, PAST, PAPER[1:])

    def test_a_piece_more_or_less(self):
        self.no(PLAN, PAST + (((), STOP),), PAPER)
        self.no((((), STOP),), (((), STOP),) * 2, ((0, ()),))
        self.yes((((), STOP),), (((), STOP),) * 2, ((0, ()), (0, ())))

    def test_each_p_is_a_piece_of_the_plan(self):
        for bad in (-1, -5, 5, 6, 400, LONGER, -LONGER):
            for at in range(len(PAPER)):
                self.no(PLAN, PAST, put_at(PAPER, at, (bad, PAPER[at][1])))
        # Counted from behind, -1 would be the same piece.
        self.no((((), STOP),), (((), STOP),), ((-1, ()),))
        self.no((((), STOP),), (((), STOP),) * 2, ((0, ()), (-1, ())))
        self.no((((), STOP),), (((), STOP),) * 2, ((0, ()), (1, ())))

    def test_the_first_one_is_of_piece_nought(self):
        twice = (((), STOP), ((), STOP))
        self.yes(twice, twice, ((0, ()), (1, ())))
        self.yes(twice, twice, ((0, ()), (0, ())))
        self.no(twice, twice, ((1, ()), (1, ())))
        self.no(twice, twice, ((1, ()), (0, ())))

    def test_the_first_ones_facts_hold_at_nought(self):
        plan = (((), STOP),)
        for stretch, told in (((0, 0), True), ((-3, 0), True), ((0, 3), True), ((None, 0), True), ((0, None), True),
                              ((1, 1), False), ((-1, -1), False), ((1, None), False), ((None, -1), False),
                              ((-LONGER, LONGER), True), ((LONG, LONGER), False)):
            self.check(plan, plan, ((0, (("a", stretch),)),), told)
            self.check(plan, plan, ((0, (("a", (0, 0)), ("b", stretch))),), told)

    def test_facts_of_the_others_need_not_hold_at_nought(self):
        self.yes((((), STOP),), (((), STOP),) * 2, ((0, ()), (0, (("a", (1, 1)),))))


class Deeds(PaperCase):
    def test_the_deeds_are_the_same(self):
        for at, (deeds, end) in enumerate(PAST):
            for other in ((), deeds + deeds, deeds + (("tell", "a"),), (("tell", "cc"),), deeds[:-1] + (("read", "a"),)):
                self.no(PLAN, put_at(PAST, at, (other, end)), PAPER)

    def test_a_number_or_a_name_or_a_word_apart(self):
        plan = (((("put", "a", 1), ("copy", "b", "a")), STOP),)
        for deeds in ((("put", "a", 2), ("copy", "b", "a")), (("add", "a", 1), ("copy", "b", "a")),
                      (("put", "b", 1), ("copy", "b", "a")), (("put", "a", 1), ("copy", "b", "b")),
                      (("copy", "b", "a"), ("put", "a", 1)), (("put", "a", 1),)):
            self.no(plan, ((deeds, STOP),), ((0, ()),))
        self.yes(plan, plan, ((0, ()),))

    def test_deeds_that_only_tell_the_same_are_not_the_same(self):
        self.no((((("put", "a", 0), ("tell", "a")), STOP),), (((("tell", "a"),), STOP),), ((0, NOUGHT),))

    def test_pieces_to_which_nothing_leads_are_asked_too(self):
        self.no((((), STOP),), (((), STOP), (PUT, STOP)), ((0, ()), (0, ())))
        self.no((((), STOP),), (((), STOP), ((), ("go", 0))), ((0, ()), (0, ())))


class Ends(PaperCase):
    def ends(self, end, other_end, facts, told, there=()):
        """The plan's piece 1 with that end and facts, the other's with the other end; pieces 2 and 3 just stop."""
        rest = (((("tell", "a"),), STOP), ((("tell", "b"),), STOP))
        plan = (((), STOP), ((), end)) + rest
        other = (((), STOP), ((), other_end)) + rest
        self.check(plan, other, ((0, ()), (1, facts), (2, there), (3, there)), told)

    def test_stop(self):
        self.ends(STOP, STOP, (), True)
        for other in (("go", 0), ("go", 1), ("less", "a", 0, 2, 3), ("is", "a", 0, 2, 3)):
            self.ends(STOP, other, (), False)
            self.ends(STOP, other, NOUGHT, False)

    def test_go(self):
        self.ends(("go", 2), ("go", 2), (), True)
        self.ends(("go", 2), ("go", 3), (), False)
        self.ends(("go", 2), STOP, (), False)
        for other in (("less", "a", 9, 2, 2), ("is", "a", 0, 2, 2)):
            self.ends(("go", 2), other, (), False)
            self.ends(("go", 2), other, NOUGHT, False)

    def test_an_open_test(self):
        for word in ("less", "is"):
            test = (word, "a", 3, 2, 3)
            self.ends(test, test, SOME, True)
            self.ends(test, test, (), True)
            for other in ((word, "a", 4, 2, 3), (word, "b", 3, 2, 3), (word, "a", 3, 3, 2), (word, "a", 3, 2, 2),
                          (word, "a", 3, 3, 3), ("go", 2), ("go", 3), STOP):
                self.ends(test, other, SOME, False)
        self.ends(("less", "a", 3, 2, 3), ("is", "a", 3, 2, 3), SOME, False)
        self.ends(("is", "a", 3, 2, 3), ("less", "a", 3, 2, 3), SOME, False)

    def test_an_open_test_with_both_ways_alike_is_no_go(self):
        self.ends(("less", "a", 3, 2, 2), ("less", "a", 3, 2, 2), SOME, True)
        self.ends(("less", "a", 3, 2, 2), ("go", 2), SOME, False)

    def test_a_test_that_is_answered_yes(self):
        for test in (("less", "a", 6, 2, 3), ("is", "a", 1, 2, 3)):
            facts = SOME if test[0] == "less" else ONE
            self.ends(test, ("go", 2), facts, True)
            self.ends(test, ("go", 3), facts, False)
            self.ends(test, test, facts, True)
            # The way of no is not taken, so it may lead anywhere.
            for way in range(4):
                self.ends(test, test[:4] + (way,), facts, True)
                self.ends(test, test[:3] + (3, way), facts, False)
            self.ends(test, STOP, facts, False)
            self.ends(test, (test[0], "a", 7, 2, 3), facts, False)
            self.ends(test, (test[0], "b", test[2], 2, 3), facts, False)

    def test_a_test_that_is_answered_no(self):
        for test in (("less", "a", 1, 2, 3), ("is", "a", 6, 2, 3)):
            self.ends(test, ("go", 3), SOME, True)
            self.ends(test, ("go", 2), SOME, False)
            for way in range(4):
                self.ends(test, test[:3] + (way, 3), SOME, True)
                self.ends(test, test[:3] + (way, 2), SOME, False)
            self.ends(test, STOP, SOME, False)
            self.ends(test, ("is" if test[0] == "less" else "less",) + test[1:], SOME, False)

    def test_facts_of_a_lead_are_covered(self):
        for there, told in (((), True), (SOME, True), ((("a", (0, 5)),), True), ((("a", (None, 5)),), True),
                            ((("a", (2, 5)),), False), ((("a", (1, 4)),), False), ((("a", (6, None)),), False),
                            ((("b", (0, 0)),), False), ((("a", (1, 5)), ("b", (None, 9))), False)):
            self.ends(("go", 2), ("go", 2), SOME, told, there)
            self.ends(("less", "a", 6, 2, 3), ("go", 2), SOME, told, there)
            self.ends(("less", "a", 6, 2, 3), ("less", "a", 6, 2, 0), SOME, told, there)
            self.ends(("is", "a", 6, 2, 3), ("is", "a", 6, 0, 3), SOME, told, there)

    def test_each_side_is_covered_by_its_own_part(self):
        plan = (((("read", "a"),), ("less", "a", 3, 1, 2)), ((), STOP), ((), STOP))
        for yes, no, told in (((None, 2), (3, None), True), ((None, 3), (2, None), True), ((None, 1), (3, None), False),
                              ((None, 2), (4, None), False), ((3, None), (None, 2), False), ((-9, 2), (3, None), False),
                              ((None, 2), (3, LONGER), False)):
            self.check(plan, plan, ((0, NOUGHT), (1, (("a", yes),)), (2, (("a", no),))), told)

    def test_facts_are_taken_behind_the_deeds(self):
        plan = (((("put", "a", LONG), ("add", "a", 1)), ("is", "a", LONG + 1, 1, 0)), ((), STOP))
        for other in ((plan[0][0], ("go", 1)), plan[0]):
            self.yes(plan, (other, plan[1]), ((0, ()), (1, (("a", (LONG + 1, LONG + 1)),))))
            self.yes(plan, (other, plan[1]), ((0, ()), (1, (("a", (LONG + 1, LONGER)),))))
            self.no(plan, (other, plan[1]), ((0, ()), (1, (("a", (LONG, LONG)),))))
            self.no(plan, (other, plan[1]), ((0, ()), (1, NOUGHT)))


class Spoilt(PaperCase):
    """Papers and plans that are changed at one place, and all that is let by of them."""

    def spoilt_papers(self, made, plan, paper):
        for at, (piece, facts) in enumerate(paper):
            yield put_at(paper, at, (made.below(len(plan)), facts))
            yield put_at(paper, at, (piece, ()))
            for place, (name, (low, high)) in enumerate(facts):
                yield put_at(paper, at, (piece, facts[:place] + facts[place + 1:]))
                for one in (-1, 1):
                    ends = (low if low is None else low + one, high), (low, high if high is None else high + one)
                    for bounds in ends + ((None, high), (low, None)):
                        if bounds != (None, None) and (None in bounds or bounds[0] <= bounds[1]):
                            yield put_at(paper, at, (piece, put_at(facts, place, (name, bounds))))

    def spoilt_plans(self, made, other):
        for at, (deeds, end) in enumerate(other):
            yield put_at(other, at, (deeds, made.end(len(other))))
            yield put_at(other, at, (deeds + (made.deed(),), end))
            if end[0] in ("less", "is"):
                yield put_at(other, at, (deeds, ("go", end[3])))
                yield put_at(other, at, (deeds, ("go", end[4])))
                yield put_at(other, at, (deeds, end[:3] + (end[4], end[3])))
            if end[0] == "go":
                yield put_at(other, at, (deeds, ("go", made.below(len(other)))))

    def same(self, made, plan, other, paper):
        numbers = made.numbers(6)
        for steps in (0, 2, 5, 11, 40):
            self.assertEqual(run(plan, numbers, steps), run(other, numbers, steps), (plan, other, paper))
            told = tuple([paper[at][0] for at in seen(other, numbers, steps)])
            self.assertEqual(seen(plan, numbers, steps), told, (plan, other, paper))

    def test_made_ones(self):
        made, counts = Made(23), {True: 0, False: 0}
        for plan in made_plans(60, 6) + [PLAN]:
            past, paper = led_past(plan, 1 + made.below(12))
            rows = [(past, spoilt) for spoilt in self.spoilt_papers(made, plan, paper)]
            rows += [(spoilt, paper) for spoilt in self.spoilt_plans(made, past)]
            for other, spoilt in rows:
                self.assertTrue(is_plan(other))
                told = plain_paper(plan, other, spoilt)
                self.check(plan, other, spoilt, told)
                counts[told] += 1
                if told:
                    self.same(made, plan, other, spoilt)
        self.assertGreater(min(counts.values()), 300)

    def test_each_place_of_a_paper(self):
        for at, bad in (
            (0, (0, (("b", (1, 1)),))), (0, (1, ())), (1, (2, (BELOW,))), (1, (1, (ABOVE,))), (1, (1, (("b", (None, -2)),))),
            (2, (2, (("b", (1, None)),))), (2, (2, NOUGHT)), (3, (3, (BELOW,))), (3, (3, (("a", (1, 2)), BELOW))),
            (3, (4, PAPER[3][1])), (4, (3, (("a", (1, 2)), ABOVE))), (4, (3, (("a", (3, 3)), ABOVE))),
            (5, (4, (("a", (1, 1)), ABOVE))), (5, (4, (("a", (2, 2)),))), (5, (3, PAPER[5][1])),
        ):
            self.no(PLAN, PAST, put_at(PAPER, at, bad))


class Kept(unittest.TestCase):
    def test_nothing_handed_in_is_changed(self):
        held = copy.deepcopy((PLAN, PAST, PAPER))
        self.assertEqual([paper_holds(PLAN, PAST, PAPER) for _ in range(2)], [True, True])
        self.assertEqual([paper_holds(PLAN, PAST, PAPER[:-1] + PAPER[:1]) for _ in range(2)], [False, False])
        self.assertEqual((PLAN, PAST, PAPER), held)


if __name__ == "__main__":
    unittest.main()
