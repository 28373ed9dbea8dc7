"""Points 4 and 5: stretches, and what a test tells of them."""

import copy
import itertools
import unittest

from ledpast.stretches import answer_of, is_stretch, is_within, lies_in, part_of
from strange import Strange

LONG = 10 ** 39
FAR = 40
NEAR = range(-4, 5)
ENDS = (None,) + tuple(range(-3, 4))
SMALL = [(low, high) for low in ENDS for high in ENDS if low is None or high is None or low <= high]


def numbers_of(stretch):
    """The numbers of a stretch; FAR stands for what lies beyond an open end."""
    low = -FAR if stretch[0] is None else stretch[0]
    high = FAR if stretch[1] is None else stretch[1]
    return list(range(low, high + 1))


def is_yes(word, number, at):
    return at < number if word == "less" else at == number


def plain_answer(stretch, word, number):
    answers = [is_yes(word, number, at) for at in numbers_of(stretch)]
    if all(answers):
        return "yes"
    return "open" if any(answers) else "no"


def plain_part(stretch, word, number, side):
    kept = [at for at in numbers_of(stretch) if is_yes(word, number, at) == side]
    if not kept:
        return None
    low, high = min(kept), max(kept)
    return (None if low == -FAR else low, None if high == FAR else high)


class IsStretch(unittest.TestCase):
    def test_stretches(self):
        for thing in SMALL + [
            (None, None), (None, 0), (0, None), (0, 0), (-1, 0), (0, 1), (-1, 1), (-1, -1),
            (LONG, LONG), (-LONG, LONG), (LONG, LONG + 1), (None, -LONG), (LONG, None),
            (-10 ** 6000, 10 ** 6000), (10 ** 6000, None), (None, 10 ** 6000), (10 ** 6000, 10 ** 6000),
        ]:
            self.assertIs(is_stretch(thing), True)

    def test_ends_turned_about(self):
        for thing in ((1, 0), (0, -1), (3, -3), (LONG + 1, LONG), (LONG, -LONG), (-LONG, -LONG - 1)):
            self.assertIs(is_stretch(thing), False, thing)

    def test_other_things_in_an_ends_place(self):
        for bad in (True, False, "", "1", "a", b"1", [], [1], (), (1,), {}, {1: 1}, set(), frozenset(), Strange(),
                    object(), len, int, Ellipsis):
            for thing in ((bad, 1), (1, bad), (bad, None), (None, bad), (bad, bad), (0, bad), (bad, 0)):
                self.assertIs(is_stretch(thing), False)

    def test_an_end_more_or_less(self):
        for thing in ((), (1,), (None,), (0, 1, 2), (None, None, None), (1, 1, 1, 1), ((0, 1),), ((0, 1), (0, 1))):
            self.assertIs(is_stretch(thing), False, thing)

    def test_no_tuple(self):
        for thing in ([0, 1], [None, None], "01", "ab", b"01", {0: 0, 1: 1}, {0, 1}, frozenset((0, 1)), range(0, 2),
                      None, True, False, 0, 1, LONG, "", [], {}, Strange(), object(), tuple, is_stretch):
            self.assertIs(is_stretch(thing), False)

    def test_a_list_that_holds_itself(self):
        loop = []
        loop.append(loop)
        self.assertIs(is_stretch(loop), False)
        self.assertIs(is_stretch((loop, loop)), False)


class LiesIn(unittest.TestCase):
    def test_all_small_ones(self):
        for stretch in SMALL:
            for number in range(-8, 9):
                self.assertIs(lies_in(number, stretch), number in numbers_of(stretch), (number, stretch))

    def test_ends_and_beside_them(self):
        for low, high in ((3, 7), (-7, -3), (5, 5), (-LONG, LONG), (LONG, LONG + 2)):
            for number, told in ((low, True), (high, True), (low - 1, False), (high + 1, False)):
                self.assertIs(lies_in(number, (low, high)), told, (number, low, high))

    def test_open_ends(self):
        for number in (-LONG, -1, 0, 1, LONG):
            self.assertIs(lies_in(number, (None, None)), True)
        self.assertIs(lies_in(-LONG, (None, 0)), True)
        self.assertIs(lies_in(0, (None, 0)), True)
        self.assertIs(lies_in(1, (None, 0)), False)
        self.assertIs(lies_in(LONG, (0, None)), True)
        self.assertIs(lies_in(0, (0, None)), True)
        self.assertIs(lies_in(-1, (0, None)), False)


class IsWithin(unittest.TestCase):
    def test_all_small_pairs(self):
        for one, other in itertools.product(SMALL, SMALL):
            told = set(numbers_of(one)) <= set(numbers_of(other))
            self.assertIs(is_within(one, other), told, (one, other))

    def test_each_end_both_ways_about(self):
        for one, other, there, back in (
            ((3, 7), (3, 7), True, True),
            ((3, 7), (2, 7), True, False),
            ((3, 7), (3, 8), True, False),
            ((3, 7), (4, 8), False, False),
            ((3, 7), (8, 9), False, False),
            ((3, 7), (None, 7), True, False),
            ((3, 7), (3, None), True, False),
            ((3, 7), (None, 6), False, False),
            ((3, 7), (4, None), False, False),
            ((3, 7), (None, None), True, False),
            ((None, 3), (3, None), False, False),
            ((None, 3), (None, 3), True, True),
            ((None, 3), (None, 4), True, False),
            ((3, None), (2, None), True, False),
            ((None, 3), (None, None), True, False),
            ((3, None), (None, None), True, False),
            ((None, None), (None, None), True, True),
            ((LONG, LONG), (-LONG, LONG), True, False),
            ((LONG, LONG + 1), (-LONG, LONG), False, False),
        ):
            self.assertIs(is_within(one, other), there, (one, other))
            self.assertIs(is_within(other, one), back, (other, one))


class Tests(unittest.TestCase):
    def test_answers_of_all_small_ones(self):
        for stretch, word, number in itertools.product(SMALL, ("less", "is"), NEAR):
            told = plain_answer(stretch, word, number)
            self.assertEqual(answer_of(stretch, word, number), told, (stretch, word, number))

    def test_parts_of_all_small_ones(self):
        for stretch, word, number, side in itertools.product(SMALL, ("less", "is"), NEAR, (True, False)):
            told = plain_part(stretch, word, number, side)
            self.assertEqual(part_of(stretch, word, number, side), told, (stretch, word, number, side))

    def test_parts_are_stretches_within(self):
        for stretch, word, number, side in itertools.product(SMALL, ("less", "is"), NEAR, (True, False)):
            part = part_of(stretch, word, number, side)
            self.assertTrue(part is None or is_stretch(part) and is_within(part, stretch))

    def check(self, stretch, word, number, answer, yes, no):
        about = (stretch, word, number)
        self.assertEqual(answer_of(stretch, word, number), answer, about)
        self.assertEqual(part_of(stretch, word, number, True), yes, about)
        self.assertEqual(part_of(stretch, word, number, False), no, about)

    def test_less_of_a_long_stretch(self):
        self.check((2, 9), "less", 1, "no", None, (2, 9))
        self.check((2, 9), "less", 2, "no", None, (2, 9))
        self.check((2, 9), "less", 3, "open", (2, 2), (3, 9))
        self.check((2, 9), "less", 6, "open", (2, 5), (6, 9))
        self.check((2, 9), "less", 9, "open", (2, 8), (9, 9))
        self.check((2, 9), "less", 10, "yes", (2, 9), None)
        self.check((2, 9), "less", 11, "yes", (2, 9), None)
        self.check((2, 9), "less", LONG, "yes", (2, 9), None)
        self.check((2, 9), "less", -LONG, "no", None, (2, 9))

    def test_is_of_a_long_stretch(self):
        self.check((2, 9), "is", 1, "no", None, (2, 9))
        self.check((2, 9), "is", 2, "open", (2, 2), (3, 9))
        self.check((2, 9), "is", 3, "open", (3, 3), (2, 9))
        self.check((2, 9), "is", 8, "open", (8, 8), (2, 9))
        self.check((2, 9), "is", 9, "open", (9, 9), (2, 8))
        self.check((2, 9), "is", 10, "no", None, (2, 9))
        self.check((2, 9), "is", LONG, "no", None, (2, 9))

    def test_one_number(self):
        for at in (0, 4, -4, LONG, -LONG):
            self.check((at, at), "less", at - 1, "no", None, (at, at))
            self.check((at, at), "less", at, "no", None, (at, at))
            self.check((at, at), "less", at + 1, "yes", (at, at), None)
            self.check((at, at), "is", at, "yes", (at, at), None)
            self.check((at, at), "is", at - 1, "no", None, (at, at))
            self.check((at, at), "is", at + 1, "no", None, (at, at))

    def test_two_numbers(self):
        self.check((4, 5), "is", 4, "open", (4, 4), (5, 5))
        self.check((4, 5), "is", 5, "open", (5, 5), (4, 4))
        self.check((-1, 0), "less", 0, "open", (-1, -1), (0, 0))

    def test_open_ends(self):
        self.check((None, None), "less", 0, "open", (None, -1), (0, None))
        self.check((None, None), "is", 0, "open", (0, 0), (None, None))
        self.check((None, None), "less", LONG, "open", (None, LONG - 1), (LONG, None))
        self.check((None, 9), "less", 9, "open", (None, 8), (9, 9))
        self.check((None, 9), "less", 10, "yes", (None, 9), None)
        self.check((None, 9), "less", -LONG, "open", (None, -LONG - 1), (-LONG, 9))
        self.check((None, 9), "is", 9, "open", (9, 9), (None, 8))
        self.check((None, 9), "is", 10, "no", None, (None, 9))
        self.check((None, 9), "is", 3, "open", (3, 3), (None, 9))
        self.check((2, None), "less", 2, "no", None, (2, None))
        self.check((2, None), "less", 3, "open", (2, 2), (3, None))
        self.check((2, None), "less", LONG, "open", (2, LONG - 1), (LONG, None))
        self.check((2, None), "is", 2, "open", (2, 2), (3, None))
        self.check((2, None), "is", 1, "no", None, (2, None))
        self.check((2, None), "is", LONG, "open", (LONG, LONG), (2, None))

    def test_many_figures(self):
        self.check((-LONG, LONG), "less", LONG, "open", (-LONG, LONG - 1), (LONG, LONG))
        self.check((-LONG, LONG), "less", LONG + 1, "yes", (-LONG, LONG), None)
        self.check((-LONG, LONG), "is", -LONG, "open", (-LONG, -LONG), (1 - LONG, LONG))
        self.check((-LONG, LONG), "is", 0, "open", (0, 0), (-LONG, LONG))


class Kept(unittest.TestCase):
    def test_asked_again_answered_the_same(self):
        for stretch in SMALL:
            held = copy.deepcopy(stretch)
            for word, number, side in itertools.product(("less", "is"), (-3, 0, 3), (True, False)):
                self.assertEqual(part_of(stretch, word, number, side), part_of(held, word, number, side))
                self.assertEqual(answer_of(stretch, word, number), answer_of(held, word, number))
            self.assertEqual(stretch, held)

    def test_a_list_asked_about_is_not_changed(self):
        thing = [3, 1]
        is_stretch(thing)
        self.assertEqual(thing, [3, 1])


if __name__ == "__main__":
    unittest.main()
