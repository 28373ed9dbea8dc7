"""Points 14 to 17, and 3 and 19 of them: plans led past, their copies, and how many are needed."""

import copy
import unittest

from ledpast.errors import TooMany
from ledpast.facts import behind, known, start
from ledpast.led import led_past, needed
from ledpast.papers import paper_holds
from ledpast.plans import heads, is_plan
from ledpast.runs import run, seen
from ledpast.stretches import answer_of
from made import Made, made_plans, plain_heads, plain_led, plain_sides

LONG = 10 ** 40 - 1
STOP = ("stop",)
TELL = ("tell", "b")
# What is read parts the ways, which come together at piece 3, whose answer each of them knows.
PARTED = (
    ((("read", "a"),), ("less", "a", 0, 1, 2)),
    ((("put", "b", 0),), ("go", 3)),
    ((("put", "b", 1),), ("go", 3)),
    ((), ("is", "b", 0, 4, 5)),
    ((TELL,), STOP),
    ((TELL,), STOP),
)
BELOW, ABOVE = ("a", (None, -1)), ("a", (0, None))
NOUGHT, ONE = ("b", (0, 0)), ("b", (1, 1))
# Both ways know the same of piece 3.
MET = (
    ((("read", "a"),), ("less", "a", 0, 1, 2)),
    ((("put", "a", 0),), ("go", 3)),
    ((("put", "a", 0),), ("go", 3)),
    ((), ("is", "a", 0, 4, 4)),
    ((), STOP),
)
# A round with a test ahead of it, one in it and one behind it.
ROUND = (
    ((("put", "a", 3),), ("less", "a", 5, 1, 3)),
    ((("tell", "a"), ("add", "a", -1)), ("less", "a", 1, 2, 1)),
    ((("put", "b", 1),), ("is", "b", 1, 3, 0)),
    ((TELL,), STOP),
)


def row_of(pieces):
    """A plan of so many pieces that go on one by one."""
    return tuple([((), ("go", at + 1)) for at in range(pieces - 1)]) + (((), STOP),)


def doubling(layers, ahead=0, behind_first=0):
    """A plan of which each layer doubles the copies; further pieces that go on have one copy each, or two."""
    pieces = []

    def add(deeds, end):
        pieces.append((deeds, end))

    for _ in range(ahead):
        add((), ("go", len(pieces) + 1))
    for layer in range(layers):
        name, at = "n" + "abcdefghijklmnopqrst"[layer], len(pieces)
        add((("read", "x"),), ("less", "x", 0, at + 1, at + 2))
        add((("put", name, 0), ("read", "x")), ("go", at + 3))
        add((("put", name, 1), ("read", "x")), ("go", at + 3))
        for _ in range(behind_first if layer == 0 else 0):
            add((), ("go", len(pieces) + 1))
    add((), STOP)
    return tuple(pieces)


def moved(piece, by):
    """The piece as it is in a plan with so many more pieces ahead."""
    deeds, end = piece
    many = {"stop": 0, "go": 1}.get(end[0], 2)
    return (deeds, end[:len(end) - many] + tuple([way + by for way in end[len(end) - many:]]))


def doubling_met(layers, ahead, behind_first):
    """The same, but its last piece is come to at once, too, by a way that knows nothing: two copies more."""
    pieces = tuple([moved(piece, 1) for piece in doubling(layers, ahead, behind_first)])
    reads = tuple([("read", name) for name in ("x", "na", "nb", "nc", "nd", "ne", "nf")])
    return ((reads, ("is", "x", 5, 1, len(pieces))),) + pieces


class Copies(unittest.TestCase):
    def check(self, plan, most, copies, ends):
        """Every piece is to have its copy's deeds, and these ends."""
        past, told = led_past(plan, most)
        self.assertEqual(told, copies)
        self.assertEqual(past, tuple([(plan[at][0], end) for (at, facts), end in zip(copies, ends)]))

    def test_ways_that_know_the_answer_are_led_past(self):
        for most in (7, 8, 300):
            self.check(PARTED, most, (
                (0, (("a", (0, 0)), NOUGHT)), (1, (BELOW, NOUGHT)), (2, (ABOVE, NOUGHT)), (3, (BELOW, NOUGHT)),
                (3, (ABOVE, ONE)), (4, (BELOW, NOUGHT)), (5, (ABOVE, ONE)),
            ), (("less", "a", 0, 1, 2), ("go", 3), ("go", 4), ("go", 5), ("go", 6), STOP, STOP))

    def test_a_bound_of_one(self):
        self.check(PARTED, 1, (
            (0, (("a", (0, 0)), NOUGHT)), (1, ()), (2, ()), (3, ()), (4, ()), (5, ()),
        ), (("less", "a", 0, 1, 2), ("go", 3), ("go", 3), ("is", "b", 0, 4, 5), STOP, STOP))

    def test_a_bound_of_four(self):
        self.check(PARTED, 4, (
            (0, (("a", (0, 0)), NOUGHT)), (1, (BELOW, NOUGHT)), (2, (ABOVE, NOUGHT)), (3, (BELOW, NOUGHT)),
            (3, ()), (4, ()), (5, ()),
        ), (("less", "a", 0, 1, 2), ("go", 3), ("go", 4), ("go", 5), ("is", "b", 0, 5, 6), STOP, STOP))

    def test_a_copy_that_is_there_already_is_come_to_at_the_bound(self):
        at_start, nought = (0, (("a", (0, 0)),)), (("a", (0, 0)),)
        self.check(MET, 4, (at_start, (1, (BELOW,)), (2, (ABOVE,)), (3, nought), (4, ())),
                   (("less", "a", 0, 1, 2), ("go", 3), ("go", 3), ("go", 4), STOP))
        self.check(MET, 5, (at_start, (1, (BELOW,)), (2, (ABOVE,)), (3, nought), (4, nought)),
                   (("less", "a", 0, 1, 2), ("go", 3), ("go", 3), ("go", 4), STOP))
        self.check(MET, 3, (at_start, (1, (BELOW,)), (2, (ABOVE,)), (3, ()), (4, ())),
                   (("less", "a", 0, 1, 2), ("go", 3), ("go", 3), ("is", "a", 0, 4, 4), STOP))

    def test_a_head_has_one_copy_that_knows_nothing(self):
        for most in (1, 300):
            past, copies = led_past(ROUND, most)
            self.assertEqual([one for one in copies if one[0] in heads(ROUND)], [(0, ()), (1, ())])
        self.check(ROUND, 300, (
            (0, ()), (1, ()), (2, (("a", (None, 0)),)), (3, (("a", (None, 0)), ONE)),
        ), (("go", 1), ("less", "a", 1, 2, 1), ("go", 3), STOP))

    def test_the_first_copy(self):
        self.assertEqual(led_past(PARTED, 300)[1][0], (0, start(PARTED)))
        self.assertEqual(led_past(ROUND, 300)[1][0], (0, ()))
        self.assertEqual(led_past((((), ("go", 0)),), 1), ((((), ("go", 0)),), ((0, ()),)))
        self.assertEqual(led_past((((TELL,), STOP),), 1), ((((TELL,), STOP),), ((0, (NOUGHT,)),)))

    def test_a_way_back_from_a_piece_that_is_not_reached_makes_no_head(self):
        plan = (((TELL,), ("go", 1)), ((), STOP), ((), ("go", 0)))
        self.check(plan, 300, ((0, (NOUGHT,)), (1, (NOUGHT,))), (("go", 1), STOP))

    def test_a_test_with_both_copies_the_same_stays(self):
        plan = (((("read", "a"),), ("less", "a", 0, 0, 0)),)
        self.check(plan, 300, ((0, ()),), (("less", "a", 0, 0, 0),))
        self.check((((("put", "a", 1),), ("less", "a", 0, 0, 0)),), 300, ((0, ()),), (("go", 0),))

    def test_two_ways_to_one_piece_have_copies_of_their_own(self):
        plan = (((("read", "a"),), ("is", "a", 5, 1, 1)), ((), ("is", "a", 5, 2, 2)), ((), STOP))
        five = (("a", (5, 5)),)
        self.check(plan, 300, (
            (0, (("a", (0, 0)),)), (1, five), (1, ()), (2, five), (2, ()),
        ), (("is", "a", 5, 1, 2), ("go", 3), ("is", "a", 5, 3, 4), STOP, STOP))

    def test_the_start_knows_all_names(self):
        plan = (((), ("less", "a", 1, 1, 2)), ((), ("is", "b", 0, 2, 1)), ((), STOP))
        self.check(plan, 300, ((0, (("a", (0, 0)), NOUGHT)), (1, ()), (2, (NOUGHT,))),
                   (("go", 1), ("is", "b", 0, 2, 1), STOP))

    def test_numbers_of_many_figures(self):
        plan = (
            ((("put", "a", LONG), ("add", "a", LONG)), ("less", "a", LONG, 2, 1)),
            ((("add", "a", -LONG),), ("is", "a", LONG, 2, 3)),
            ((("tell", "a"),), STOP),
            ((), STOP),
        )
        self.check(plan, 300, ((0, (("a", (0, 0)),)), (1, (("a", (2 * LONG, 2 * LONG)),)), (2, (("a", (LONG, LONG)),))),
                   (("go", 1), ("go", 2), STOP))

    def test_made_plans(self):
        for plan in made_plans(300, 8):
            for most in (1, 2, 3, 5, 8, 300):
                self.assertEqual(led_past(plan, most), plain_led(plan, most), (plan, most))

    def test_bounds_somewhat_beyond_are_not_refused(self):
        for most in (0, 301, 1000):
            self.assertEqual(led_past(PARTED, most), led_past(PARTED, max(1, min(most, 300))))


class Bounds(unittest.TestCase):
    def test_sixty_pieces_and_sixty_one(self):
        past, copies = led_past(row_of(60), 300)
        self.assertEqual(past, row_of(60))
        self.assertEqual(needed(row_of(60)), 60)
        for pieces in (61, 62, 400):
            with self.assertRaises(TooMany):
                led_past(row_of(pieces), 300)
            with self.assertRaises(TooMany):
                needed(row_of(pieces))

    def test_pieces_to_which_nothing_leads_count(self):
        self.assertEqual(led_past((((), STOP),) * 60, 300), ((((), STOP),), ((0, ()),)))
        self.assertEqual(needed((((), STOP),) * 60), 1)
        with self.assertRaises(TooMany):
            led_past((((), STOP),) * 61, 300)
        with self.assertRaises(TooMany):
            needed((((), STOP),) * 61)

    def test_no_more_copies_than_the_bound_and_the_pieces(self):
        plan = doubling(19)
        for most in (1, 2, 7, 299, 300):
            past, copies = led_past(plan, most)
            self.assertLessEqual(len(copies), most + len(plan))
            self.assertGreaterEqual(len(copies), most)
            self.assertEqual(len(copies), len(set(copies)))
            self.assertEqual(len(copies), len(past))
            self.assertTrue(is_plan(past))
            self.assertLessEqual(len([one for one in copies if one[1] != ()]), most)
            self.assertTrue(paper_holds(plan, past, copies))

    def test_sixty_pieces_of_twelve_deeds(self):
        letters = "abcdefghijklmnopqrstuvwxyz"
        names = [one + two for one in letters for two in letters]
        pieces = []
        for at in range(59):
            deeds = tuple([("copy", names[at * 11 + k], names[at * 11 + k + 1]) for k in range(11)]) + (("read", "x"),)
            pieces.append((deeds, ("less", "x", 0, at + 1, min(at + 2, 59))))
        plan = tuple(pieces) + (((), STOP),)
        past, copies = led_past(plan, 300)
        self.assertTrue(is_plan(past))
        self.assertTrue(paper_holds(plan, past, copies))
        self.assertLessEqual(len(copies), 360)


class Needed(unittest.TestCase):
    def test_some(self):
        self.assertEqual(needed(PARTED), 7)
        self.assertEqual(needed(MET), 5)
        self.assertEqual(needed(ROUND), 4)
        self.assertEqual(needed((((), STOP),)), 1)
        self.assertEqual(needed((((), ("go", 0)),)), 1)

    def test_three_hundred_and_three_hundred_and_one(self):
        for ahead, behind_first, told in ((0, 0, 253), (0, 23, 299), (1, 23, 300)):
            plan = doubling(6, ahead, behind_first)
            self.assertEqual(needed(plan), told)
            self.assertEqual(len(led_past(plan, 300)[1]), told)
            self.assertEqual(led_past(plan, 300), led_past(plan, 1000))
        for ahead, behind_first in ((2, 23), (0, 24), (1, 24), (30, 10)):
            with self.assertRaises(TooMany):
                needed(doubling(6, ahead, behind_first))

    def test_a_last_copy_that_a_bound_would_hold_back(self):
        for ahead, behind_first, told in ((0, 22, 299), (1, 22, 300)):
            self.assertEqual(needed(doubling_met(6, ahead, behind_first)), told)
        plan = doubling_met(6, 0, 23)
        self.assertEqual(len(led_past(plan, 300)[1]), 300)
        self.assertEqual(len(led_past(plan, 301)[1]), 301)
        with self.assertRaises(TooMany):
            needed(plan)

    def test_very_many_are_refused_at_once(self):
        with self.assertRaises(TooMany):
            needed(doubling(19))

    def test_the_bound_tells_whether_it_holds_back(self):
        for plan in made_plans(200, 7):
            many = needed(plan)
            self.assertEqual(many, len(plain_led(plan, None)[1]))
            self.assertEqual(led_past(plan, many), plain_led(plan, None))
            self.assertEqual(led_past(plan, min(many, 300)), led_past(plan, 300))


class Whole(unittest.TestCase):
    def plans(self):
        return made_plans(150, 7) + [PARTED, MET, ROUND, doubling(3), doubling(2, 1, 3)]

    def test_the_plan_and_the_one_led_past_tell_the_same_step_by_step(self):
        made = Made(17)
        for plan in self.plans():
            for most in (1, 3, 300):
                past, copies = led_past(plan, most)
                numbers = made.numbers(6)
                for steps in list(range(0, 40, 3)) + [300]:
                    self.assertEqual(run(past, numbers, steps), run(plan, numbers, steps), (plan, numbers, steps))

    def test_what_is_seen_are_the_pieces_of_the_copies(self):
        made = Made(19)
        for plan in self.plans():
            for most in (1, 3, 300):
                past, copies = led_past(plan, most)
                numbers = made.numbers(6)
                for steps in (0, 1, 9, 100):
                    told = tuple([copies[at][0] for at in seen(past, numbers, steps)])
                    self.assertEqual(told, seen(plan, numbers, steps))

    def test_the_copies_are_a_paper(self):
        for plan in self.plans():
            for most in (1, 2, 4, 300):
                past, copies = led_past(plan, most)
                self.assertTrue(is_plan(past))
                self.assertIs(paper_holds(plan, past, copies), True)

    def test_no_head_has_more_than_one_copy(self):
        for plan in self.plans():
            for most in (1, 4, 300):
                pieces = [at for at, facts in led_past(plan, most)[1]]
                self.assertEqual([at for at in heads(plan) if pieces.count(at) > 1], [])

    def test_tests_stand_only_where_the_answer_is_open(self):
        for plan in self.plans():
            past, copies = led_past(plan, needed(plan))
            for (deeds, end), (at, facts) in zip(past, copies):
                if end[0] in ("less", "is"):
                    self.assertEqual(answer_of(known(behind(facts, deeds), end[1]), end[0], end[2]), "open")

    def follow(self, plan, past, at, place, worths_known):
        """Goes each way on to the next head, beside the plan led past, by what the way itself tells."""
        tops, waiting = plain_heads(plan), [(at, place, worths_known)]
        while waiting:
            at, place, facts = waiting.pop()
            deeds, end = plan[at]
            sides = plain_sides(behind(facts, deeds), end)
            led = past[place][1]
            self.assertEqual(led[0], "go" if len(sides) == 1 else end[0])
            for (side, way, there), stead in zip(sides, led[1 if led[0] == "go" else 3:]):
                if way not in tops:
                    waiting.append((way, stead, there))

    def test_each_way_from_the_start_or_a_head_is_led_past_what_it_knows(self):
        for plan in made_plans(100, 6) + [PARTED, MET, ROUND, doubling(4)]:
            past, copies = led_past(plan, needed(plan))
            for place, (at, facts) in enumerate(copies):
                if place == 0 or at in heads(plan):
                    self.follow(plan, past, at, place, facts)

    def test_nothing_handed_in_is_changed(self):
        for plan in (PARTED, ROUND):
            held = copy.deepcopy(plan)
            answers = [(led_past(plan, 3), led_past(plan, 300), needed(plan)) for _ in range(2)]
            self.assertEqual(answers[0], answers[1])
            self.assertEqual(plan, held)

    def test_told_are_tuples(self):
        for plan in (PARTED, ROUND):
            told = led_past(plan, 300)
            self.assertIs(told.__class__, tuple)
            self.assertEqual(len(told), 2)
            self.assertTrue(is_plan(told[0]))
            self.assertIs(told[1].__class__, tuple)
            for one in told[1]:
                self.assertEqual((one.__class__, one[1].__class__), (tuple, tuple))
            self.assertIs(needed(plan).__class__, int)


if __name__ == "__main__":
    unittest.main()
