"""Points 6 and 7: what is a plan, its names, and the ways through it."""

import copy
import unittest

from ledpast.plans import heads, is_plan, names_of, reached, ways_on
from strange import Strange

LONG = 10 ** 39
STOP = ((), ("stop",))
DEEDS = (("put", "a", 3), ("copy", "a", "b"), ("add", "a", -1), ("read", "a"), ("tell", "a"))
ENDS = (("stop",), ("go", 1), ("less", "a", 5, 1, 0), ("is", "a", 5, 0, 1))
BAD_NAMES = ("", "abcdefghi", "A", "aB", "a1", "1", "a b", " a", "a ", "a\n", "a_b", "-", "\u00e9", "\u00df", "\u0430",
             "\u00aa", "`", "{", b"a", 1, None, True, ["a"], ("a",))
BAD_NUMBERS = (True, False, "1", "", b"1", None, [1], (1,), {}, "a")
OTHER_THINGS = (None, True, False, 0, 1, -1, LONG, "", "stop", "((), ('stop',))", b"stop", [], {}, set(), object(),
                len, is_plan, range(3), Ellipsis)


def with_deed(deed):
    return (((deed,), ("go", 1)), STOP)


def with_end(end):
    return (((), end), STOP)


def put_at(thing, at, part):
    return thing[:at] + (part,) + thing[at + 1:]


def go_row(count):
    """A plan of one long row: each piece goes to the next one, the last one stops."""
    return tuple([((), ("go", at + 1)) for at in range(count - 1)]) + (STOP,)


def of_ends(*ends):
    return tuple([((), end) for end in ends])


class PlanCase(unittest.TestCase):
    def yes(self, thing):
        self.assertIs(is_plan(thing), True, thing)

    def no(self, thing):
        self.assertIs(is_plan(thing), False)


class IsPlan(PlanCase):
    def test_each_deed_and_each_end(self):
        for deed in DEEDS:
            self.yes(with_deed(deed))
        for end in ENDS:
            self.yes(with_end(end))

    def test_one_piece_and_four_hundred(self):
        self.yes((STOP,))
        self.yes((((), ("go", 0)),))
        self.yes((((), ("is", "a", 0, 0, 0)),))
        self.yes((STOP,) * 400)
        self.yes(go_row(400))

    def test_none_to_twelve_deeds(self):
        for many in range(13):
            self.yes((((("tell", "a"),) * many, ("stop",)),))

    def test_names_of_one_to_eight_letters(self):
        for name in ("a", "z", "az", "abcdefgh", "zzzzzzzz", "put", "stop"):
            self.yes(with_deed(("read", name)))
            self.yes(with_deed(("copy", name, name)))
            self.yes(with_end(("less", name, 0, 0, 0)))

    def test_numbers_of_any_figures(self):
        for number in (0, -1, LONG, -LONG, 10 ** 6000, -10 ** 6000):
            self.assertIs(is_plan(with_deed(("put", "a", number))), True)
            self.assertIs(is_plan(with_deed(("add", "a", number))), True)
            self.assertIs(is_plan(with_end(("is", "a", number, 0, 1))), True)

    def test_pieces_to_which_nothing_leads_are_asked_too(self):
        self.yes((STOP, ((), ("go", 1))))
        self.no((STOP, ((), ("go", 2))))
        self.no((STOP, ((("tell", ""),), ("stop",))))


class IsNoPlan(PlanCase):
    def test_counts_of_pieces(self):
        self.no(())
        self.no((STOP,) * 401)
        self.no(go_row(401))
        self.no((STOP,) * 5000)

    def test_thirteen_deeds(self):
        for many in (13, 14, 100):
            self.no((((("tell", "a"),) * many, ("stop",)),))

    def test_a_thing_left_out_or_told_twice(self):
        for deed in DEEDS:
            for at in range(len(deed)):
                self.no(with_deed(deed[:at] + deed[at + 1:]))
                self.no(with_deed(deed[:at + 1] + deed[at:]))
            self.no(with_deed(deed + (None,)))
        for end in ENDS:
            for at in range(len(end)):
                self.no(with_end(end[:at] + end[at + 1:]))
                self.no(with_end(end[:at + 1] + end[at:]))
            self.no(with_end(end + (0,)))
        self.no(with_deed(()))
        self.no(with_end(()))

    def test_a_piece_with_a_thing_more_or_less(self):
        for piece in ((), ((),), (("stop",),), ((), ("stop",), ()), ((), (), ("stop",)), (("stop",), ())):
            self.no((piece,))

    def test_a_list_for_a_tuple(self):
        self.no([STOP])
        self.no(([(), ("stop",)],))
        self.no((([], ("stop",)),))
        self.no((([("tell", "a")], ("stop",)),))
        for deed in DEEDS:
            self.no(with_deed(list(deed)))
        for end in ENDS:
            self.no(with_end(list(end)))

    def test_wrong_numbers(self):
        for bad in BAD_NUMBERS + (Strange(),):
            self.no(with_deed(("put", "a", bad)))
            self.no(with_deed(("add", "a", bad)))
            self.no(with_end(("less", "a", bad, 0, 1)))
            self.no(with_end(("is", "a", bad, 0, 1)))

    def test_wrong_ways(self):
        for bad in BAD_NUMBERS + (-1, -2, 2, 3, 400, LONG, -LONG, Strange()):
            self.no(with_end(("go", bad)))
            for word in ("less", "is"):
                self.no(with_end((word, "a", 0, bad, 0)))
                self.no(with_end((word, "a", 0, 0, bad)))

    def test_ways_to_the_count_of_pieces(self):
        for count in (1, 2, 7, 400):
            rest = (STOP,) * (count - 1)
            self.yes((((), ("go", count - 1)),) + rest)
            self.no((((), ("go", count)),) + rest)
            self.no((((), ("go", -1)),) + rest)
            self.no((((), ("less", "a", 0, 0, count)),) + rest)
            self.no((((), ("is", "a", 0, count, 0)),) + rest)

    def test_wrong_names(self):
        for bad in BAD_NAMES + (Strange(),):
            for deed in DEEDS:
                self.no(with_deed(put_at(deed, 1, bad)))
            self.no(with_deed(("copy", "a", bad)))
            self.no(with_end(("less", bad, 0, 0, 1)))
            self.no(with_end(("is", bad, 0, 0, 1)))

    def test_wrong_words(self):
        for bad in ("", "Put", "puts", "put ", " put", "more", "halt", b"put", None, True, 0, [], {}, ("put",), Strange()):
            for deed in DEEDS:
                self.no(with_deed(put_at(deed, 0, bad)))
            for end in ENDS:
                self.no(with_end(put_at(end, 0, bad)))

    def test_words_at_another_ones_place(self):
        for end in ENDS:
            self.no(with_deed(end))
        for deed in DEEDS:
            self.no(with_end(deed))
        self.no(with_deed(("read", "a", 3)))
        self.no(with_deed(("put", "a", "b")))
        self.no(with_deed(("copy", "a", 3)))
        self.no(with_end(("stop", 0)))
        self.no(with_end(("go", "a", 0, 0, 1)))

    def test_things_of_other_kinds(self):
        for thing in OTHER_THINGS + (Strange(),):
            self.no(thing)
            self.no((thing,))
            self.no(with_deed(thing))
            self.no(with_end(thing))
            self.no(((thing, ("stop",)),))

    def test_a_list_that_holds_itself(self):
        loop = []
        loop.append(loop)
        for thing in (loop, (loop,), ((loop, loop),), with_deed((loop,)), with_end((loop, loop))):
            self.no(thing)

    def test_tuples_deep_within_one_another(self):
        thing = ()
        for _ in range(5000):
            thing = (thing, thing)
        self.no(thing)

    def test_a_wrong_last_piece_of_four_hundred(self):
        self.no((STOP,) * 399 + (((), ("go", 400)),))
        self.no((STOP,) * 399 + (((("put", "a"),), ("stop",)),))


class Names(unittest.TestCase):
    def test_rising_each_once(self):
        plan = (
            ((("put", "d", 1), ("copy", "c", "f"), ("add", "d", 2)), ("less", "b", 0, 1, 0)),
            ((("read", "e"), ("tell", "aa")), ("is", "a", 0, 0, 2)),
            ((("copy", "f", "c"),), ("stop",)),
        )
        self.assertEqual(names_of(plan), ("a", "aa", "b", "c", "d", "e", "f"))

    def test_of_each_deed_and_each_end(self):
        for deed, names in zip(DEEDS, (("a",), ("a", "b"), ("a",), ("a",), ("a",))):
            self.assertEqual(names_of(with_deed(deed)), names)
        for end, names in zip(ENDS, ((), (), ("a",), ("a",))):
            self.assertEqual(names_of(with_end(end)), names)

    def test_rising_as_texts(self):
        plan = ((tuple([("tell", name) for name in ("b", "ab", "z", "aaa", "zz", "aa", "a")]), ("stop",)),)
        self.assertEqual(names_of(plan), ("a", "aa", "aaa", "ab", "b", "z", "zz"))

    def test_words_of_deeds_are_no_names_unless_used_so(self):
        self.assertEqual(names_of(with_deed(("copy", "tell", "put"))), ("put", "tell"))

    def test_pieces_to_which_nothing_leads_count(self):
        self.assertEqual(names_of((STOP, ((("tell", "x"),), ("is", "y", 0, 1, 1)))), ("x", "y"))

    def test_none(self):
        self.assertEqual(names_of((STOP,)), ())


class WaysOn(unittest.TestCase):
    def test_each_end(self):
        self.assertEqual(ways_on(("stop",)), ())
        self.assertEqual(ways_on(("go", 3)), (3,))
        self.assertEqual(ways_on(("less", "a", 7, 5, 2)), (5, 2))
        self.assertEqual(ways_on(("is", "a", 7, 2, 5)), (2, 5))

    def test_both_ways_to_one_piece(self):
        self.assertEqual(ways_on(("is", "a", 7, 4, 4)), (4, 4))
        self.assertEqual(ways_on(("less", "a", 7, 0, 0)), (0, 0))


class Reached(unittest.TestCase):
    def check(self, plan, pieces, tops):
        self.assertIs(is_plan(plan), True)
        self.assertEqual(reached(plan), pieces, plan)
        self.assertEqual(heads(plan), tops, plan)

    def test_one_piece(self):
        self.check((STOP,), (0,), ())
        self.check(of_ends(("go", 0)), (0,), (0,))
        self.check(of_ends(("is", "a", 0, 0, 0)), (0,), (0,))

    def test_pieces_to_which_nothing_leads(self):
        self.check(of_ends(("go", 2), ("go", 0), ("stop",)), (0, 2), ())
        self.check(of_ends(("stop",), ("go", 1), ("go", 0)), (0,), ())
        # A round among pieces to which nothing leads has no head, nor do they make one.
        self.check(of_ends(("go", 3), ("go", 2), ("less", "a", 0, 1, 3), ("stop",)), (0, 3), ())

    def test_a_piece_that_leads_to_itself(self):
        self.check(of_ends(("go", 1), ("less", "a", 5, 1, 2), ("stop",)), (0, 1, 2), (1,))
        self.check(of_ends(("go", 1), ("less", "a", 5, 2, 1), ("stop",)), (0, 1, 2), (1,))

    def test_rounds(self):
        self.check(of_ends(("go", 1), ("go", 2), ("is", "a", 5, 3, 1), ("stop",)), (0, 1, 2, 3), (1,))
        self.check(of_ends(("go", 1), ("go", 0)), (0, 1), (0,))
        self.check(
            of_ends(("less", "a", 0, 4, 1), ("go", 2), ("is", "b", 1, 1, 3), ("less", "b", 2, 0, 5), ("go", 4), ("stop",)),
            (0, 1, 2, 3, 4, 5), (0, 1, 4),
        )

    def test_a_way_back_without_a_round(self):
        self.check(of_ends(("go", 2), ("stop",), ("go", 1)), (0, 1, 2), (1,))

    def test_both_ways_of_a_test_count(self):
        self.check(of_ends(("less", "a", 0, 1, 2), ("stop",), ("stop",)), (0, 1, 2), ())
        self.check(of_ends(("is", "a", 0, 2, 1), ("stop",), ("stop",)), (0, 1, 2), ())

    def test_four_hundred_in_one_row(self):
        self.check(go_row(400), tuple(range(400)), ())
        back = go_row(400)[:399] + (((), ("go", 0)),)
        self.check(back, tuple(range(400)), (0,))
        down = (((), ("go", 399)), STOP) + tuple([((), ("go", at - 1)) for at in range(2, 400)])
        self.check(down, tuple(range(400)), tuple(range(1, 399)))

    def test_four_hundred_tests(self):
        plan = tuple([((), ("less", "a", at, min(at + 1, 399), at // 2)) for at in range(400)])
        self.check(plan, tuple(range(400)), tuple(range(200)) + (399,))

    def test_each_round_has_a_head(self):
        plan = of_ends(("go", 3), ("go", 4), ("go", 1), ("is", "a", 0, 2, 5), ("go", 2), ("go", 5))
        self.check(plan, (0, 1, 2, 3, 4, 5), (1, 2, 5))


class Kept(unittest.TestCase):
    def test_nothing_handed_in_is_changed(self):
        plan = go_row(5) + with_deed(("copy", "b", "a"))
        held = copy.deepcopy(plan)
        answers = [(is_plan(plan), names_of(plan), reached(plan), heads(plan)) for _ in range(2)]
        self.assertEqual(answers[0], answers[1])
        self.assertEqual(plan, held)
        wrong = [[[("tell", "a")], ["stop"]]]
        is_plan(wrong)
        self.assertEqual(wrong, [[[("tell", "a")], ["stop"]]])

    def test_told_are_tuples(self):
        plan = (((("copy", "b", "a"),), ("is", "c", 0, 0, 0)),)
        for told in (names_of(plan), ways_on(plan[0][1]), reached(plan), heads(plan), ways_on(("stop",))):
            self.assertIs(told.__class__, tuple)


if __name__ == "__main__":
    unittest.main()
