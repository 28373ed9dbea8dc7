"""Points 11, 12 and 13: facts, behind deeds and at ends."""

import copy
import itertools
import unittest

from ledpast.facts import behind, covers, holds, known, leads, start, with_known
from ledpast.stretches import answer_of, is_stretch, lies_in, part_of
from made import Made, made_plans, plain_behind, plain_covers, plain_run, plain_sides

LONG = 10 ** 40 - 1
LONGER = 10 ** 60 - 1
ALL = (None, None)
STOP = ("stop",)
SOME = (("a", (1, 5)), ("b", (None, 3)), ("cc", (2, None)))
ENDS = (None, -2, 0, 1)
STRETCHES = [(low, high) for low in ENDS for high in ENDS if low is None or high is None or low <= high]
# All facts of two names over these stretches.
SMALL = [
    tuple([(name, stretch) for name, stretch in (("a", one), ("b", other)) if stretch != ALL])
    for one in STRETCHES for other in STRETCHES
]


def are_facts(thing):
    names = [name for name, stretch in thing]
    return names == sorted(set(names)) and all([is_stretch(stretch) and stretch != ALL for name, stretch in thing])


def made_facts(made):
    rows = [(name, made.one_of(STRETCHES)) for name in ("a", "b", "cc")]
    return tuple([row for row in rows if row[1] != ALL])


class Known(unittest.TestCase):
    def test_a_name_that_is_there(self):
        self.assertEqual([known(SOME, name) for name in ("a", "b", "cc")], [(1, 5), (None, 3), (2, None)])

    def test_any_other_name(self):
        for name in ("c", "aa", "d", "zzzzzzzz"):
            self.assertEqual(known(SOME, name), ALL)
        self.assertEqual(known((), "a"), ALL)

    def test_many_figures(self):
        facts = (("a", (-LONGER, LONGER)),)
        self.assertEqual(known(facts, "a"), (-LONGER, LONGER))


class WithKnown(unittest.TestCase):
    def test_in_the_stead_of_what_was_told(self):
        self.assertEqual(with_known(SOME, "b", (0, 0)), (("a", (1, 5)), ("b", (0, 0)), ("cc", (2, None))))

    def test_names_stay_rising(self):
        self.assertEqual(with_known(SOME, "aa", (7, None)),
                         (("a", (1, 5)), ("aa", (7, None)), ("b", (None, 3)), ("cc", (2, None))))
        self.assertEqual(with_known(SOME[1:], "a", (0, 1))[0], ("a", (0, 1)))
        self.assertEqual(with_known(SOME, "z", (0, 1)), SOME + (("z", (0, 1)),))
        self.assertEqual(with_known((), "z", (0, 1)), (("z", (0, 1)),))

    def test_a_stretch_that_has_all_is_left_out(self):
        self.assertEqual(with_known(SOME, "b", ALL), (("a", (1, 5)), ("cc", (2, None))))
        self.assertEqual(with_known(SOME, "z", ALL), SOME)
        self.assertEqual(with_known((("a", (1, 5)),), "a", ALL), ())
        self.assertEqual(with_known((), "a", ALL), ())

    def test_all_small_ones(self):
        for facts, stretch, name in itertools.product(SMALL, STRETCHES, ("a", "b", "c")):
            told = with_known(facts, name, stretch)
            self.assertTrue(are_facts(told))
            for other in ("a", "b", "c"):
                self.assertEqual(known(told, other), stretch if other == name else known(facts, other))


class Holds(unittest.TestCase):
    def check(self, facts, worths, told):
        self.assertIs(holds(facts, worths), told, (facts, worths))

    def test_each_worth_in_its_stretch(self):
        self.check(SOME, {"a": 1, "b": 3, "cc": 2}, True)
        self.check(SOME, {"a": 5, "b": -99, "cc": 99}, True)
        self.check(SOME, {"a": 0, "b": 3, "cc": 2}, False)
        self.check(SOME, {"a": 6, "b": 3, "cc": 2}, False)
        self.check(SOME, {"a": 1, "b": 4, "cc": 2}, False)
        self.check(SOME, {"a": 1, "b": 3, "cc": 1}, False)

    def test_a_name_that_the_worths_lack_is_worth_nought(self):
        self.check((("a", (0, 0)),), {}, True)
        self.check((("a", (-1, 1)),), {"b": 9}, True)
        self.check((("a", (1, 1)),), {}, False)
        self.check((("a", (None, -1)),), {}, False)
        self.check((("a", (1, None)),), {"b": 1}, False)

    def test_names_that_the_facts_do_not_tell(self):
        self.check((), {}, True)
        self.check((), {"a": LONGER, "b": -LONGER}, True)
        self.check((("a", (1, 2)),), {"a": 1, "b": 99}, True)

    def test_many_figures(self):
        for low, high in ((-LONG, LONG), (-LONGER, LONGER)):
            facts = (("a", (low, high)),)
            for worth, told in ((low, True), (high, True), (low - 1, False), (high + 1, False)):
                self.check(facts, {"a": worth}, told)


class Covers(unittest.TestCase):
    def check(self, facts, others, told):
        self.assertIs(covers(facts, others), told, (facts, others))

    def test_wider_and_narrower(self):
        for one, other, there, back in (
            ((("a", (1, 5)),), (("a", (1, 5)),), True, True),
            ((("a", (1, 5)),), (("a", (2, 5)),), True, False),
            ((("a", (1, 5)),), (("a", (1, 4)),), True, False),
            ((("a", (1, 5)),), (("a", (4, 6)),), False, False),
            ((("a", (None, 5)),), (("a", (1, 5)),), True, False),
            ((("a", (1, None)),), (("a", (1, 5)),), True, False),
            ((("a", (1, None)),), (("a", (None, 5)),), False, False),
            ((), (("a", (1, 5)),), True, False),
            ((), (), True, True),
            ((("a", (1, 5)),), (("b", (1, 5)),), False, False),
            ((("a", (1, 5)),), (("a", (2, 3)), ("b", (1, 1))), True, False),
            ((("a", (1, 5)), ("b", (0, 0))), (("a", (2, 3)), ("b", (1, 1))), False, False),
            ((("a", (-LONGER, LONGER)),), (("a", (-LONG, LONG)),), True, False),
        ):
            self.check(one, other, there)
            self.check(other, one, back)

    def test_all_small_ones(self):
        for facts, others in itertools.product(SMALL, SMALL):
            self.check(facts, others, plain_covers(facts, others))

    def test_they_hold_wherever_the_others_do(self):
        worths = [{"a": one, "b": other} for one in range(-4, 4) for other in range(-4, 4)]
        for facts, others in itertools.product(SMALL[::3], SMALL[::2]):
            if covers(facts, others):
                for some in worths:
                    self.assertTrue(holds(facts, some) or not holds(others, some))


class Behind(unittest.TestCase):
    def check(self, facts, deeds, told):
        self.assertEqual(behind(facts, deeds), told, (facts, deeds))

    def test_no_deeds(self):
        self.check(SOME, (), SOME)
        self.check((), (), ())

    def test_put(self):
        self.check(SOME, (("put", "a", 9),), (("a", (9, 9)),) + SOME[1:])
        self.check((), (("put", "a", -9),), (("a", (-9, -9)),))
        self.check(SOME, (("put", "bb", LONG),), SOME[:2] + (("bb", (LONG, LONG)),) + SOME[2:])

    def test_copy(self):
        self.check(SOME, (("copy", "a", "b"),), (("a", (None, 3)),) + SOME[1:])
        self.check(SOME, (("copy", "d", "cc"),), SOME + (("d", (2, None)),))
        self.check(SOME, (("copy", "a", "d"),), SOME[1:])
        self.check(SOME, (("copy", "a", "a"),), SOME)
        self.check(SOME, (("copy", "d", "d"),), SOME)

    def test_add(self):
        self.check(SOME, (("add", "a", 3),), (("a", (4, 8)),) + SOME[1:])
        self.check(SOME, (("add", "a", -3),), (("a", (-2, 2)),) + SOME[1:])
        self.check(SOME, (("add", "b", 3),), (SOME[0], ("b", (None, 6)), SOME[2]))
        self.check(SOME, (("add", "cc", 3),), SOME[:2] + (("cc", (5, None)),))
        self.check(SOME, (("add", "cc", -2),), SOME[:2] + (("cc", (0, None)),))
        self.check(SOME, (("add", "b", -3),), (SOME[0], ("b", (None, 0)), SOME[2]))
        self.check(SOME, (("add", "a", 0),), SOME)
        self.check(SOME, (("add", "d", 3),), SOME)

    def test_add_of_many_figures(self):
        self.check((("a", (-LONGER, LONGER)),), (("add", "a", LONG),), (("a", (LONG - LONGER, LONGER + LONG)),))
        self.check((("a", (LONGER, None)),), (("add", "a", LONG),) * 3, (("a", (LONGER + 3 * LONG, None)),))

    def test_read(self):
        self.check(SOME, (("read", "a"),), SOME[1:])
        self.check(SOME, (("read", "d"),), SOME)
        self.check((("a", (1, 5)),), (("read", "a"),), ())

    def test_tell(self):
        self.check(SOME, (("tell", "a"), ("tell", "d")), SOME)

    def test_one_by_one(self):
        self.check((), (("put", "a", 1), ("copy", "b", "a"), ("add", "a", 2), ("copy", "cc", "a"), ("read", "a")),
                   (("b", (1, 1)), ("cc", (3, 3))))
        self.check((("a", (0, 1)),), (("copy", "b", "a"), ("put", "a", 7), ("copy", "cc", "b")),
                   (("a", (7, 7)), ("b", (0, 1)), ("cc", (0, 1))))
        self.check((("a", (0, 1)),), (("read", "a"), ("add", "a", 4)), ())

    def test_made_deeds(self):
        made = Made(11)
        for _ in range(400):
            facts, deeds = made_facts(made), tuple([made.deed() for _ in range(made.below(13))])
            told = behind(facts, deeds)
            self.assertEqual(told, plain_behind(facts, deeds))
            self.assertTrue(are_facts(told))
            step = facts
            for deed in deeds:
                step = behind(step, (deed,))
            self.assertEqual(told, step)

    def test_they_hold_behind_where_they_held_ahead(self):
        made = Made(13)
        for _ in range(200):
            facts, deeds = made_facts(made), tuple([made.deed() for _ in range(made.below(9))])
            worths = {name: made.number() for name in ("a", "b", "cc")}
            if holds(facts, worths):
                plan = ((deeds + tuple([("tell", name) for name in ("a", "b", "cc")]), STOP),)
                told = plain_run(plan, (1, -1) * 10, 100, 0, worths)[1]
                self.assertTrue(holds(behind(facts, deeds), dict(zip(("a", "b", "cc"), told[-3:]))))


class Leads(unittest.TestCase):
    def check(self, facts, end, *told):
        self.assertEqual(leads(facts, end), told, (facts, end))

    def test_stop(self):
        self.check(SOME, STOP)
        self.check((), STOP)

    def test_go(self):
        self.check(SOME, ("go", 7), (7, SOME))
        self.check((), ("go", 0), (0, ()))

    def test_an_open_test_leads_both_ways_yes_first(self):
        self.check(SOME, ("less", "a", 3, 9, 8), (9, (("a", (1, 2)),) + SOME[1:]), (8, (("a", (3, 5)),) + SOME[1:]))
        self.check(SOME, ("is", "a", 1, 8, 9), (8, (("a", (1, 1)),) + SOME[1:]), (9, (("a", (2, 5)),) + SOME[1:]))
        self.check(SOME, ("is", "a", 3, 4, 4), (4, (("a", (3, 3)),) + SOME[1:]), (4, SOME))

    def test_an_answer_that_is_known_leads_one_way(self):
        self.check(SOME, ("less", "a", 6, 9, 8), (9, SOME))
        self.check(SOME, ("less", "a", 1, 9, 8), (8, SOME))
        self.check(SOME, ("is", "a", 6, 9, 8), (8, SOME))
        self.check((("a", (4, 4)),), ("is", "a", 4, 9, 8), (9, (("a", (4, 4)),)))
        self.check((("a", (4, 4)),), ("is", "a", 4, 5, 5), (5, (("a", (4, 4)),)))

    def test_a_name_of_which_nothing_is_known(self):
        self.check(SOME, ("less", "bb", 2, 0, 1), (0, SOME[:2] + (("bb", (None, 1)),) + SOME[2:]),
                   (1, SOME[:2] + (("bb", (2, None)),) + SOME[2:]))
        self.check((), ("is", "a", 2, 0, 1), (0, (("a", (2, 2)),)), (1, ()))

    def test_open_ends(self):
        self.check((("b", (None, 3)),), ("less", "b", 3, 0, 1), (0, (("b", (None, 2)),)), (1, (("b", (3, 3)),)))
        self.check((("b", (None, 3)),), ("is", "b", 3, 0, 1), (0, (("b", (3, 3)),)), (1, (("b", (None, 2)),)))
        self.check((("b", (None, 3)),), ("less", "b", 4, 0, 1), (0, (("b", (None, 3)),)))
        self.check((("b", (2, None)),), ("less", "b", 2, 0, 1), (1, (("b", (2, None)),)))
        self.check((("b", (2, None)),), ("is", "b", 2, 0, 1), (0, (("b", (2, 2)),)), (1, (("b", (3, None)),)))

    def test_many_figures(self):
        self.check((("a", (-LONGER, LONGER)),), ("less", "a", LONG, 0, 1),
                   (0, (("a", (-LONGER, LONG - 1)),)), (1, (("a", (LONG, LONGER)),)))
        self.check((("a", (LONG, LONGER)),), ("less", "a", LONG, 0, 1), (1, (("a", (LONG, LONGER)),)))
        self.check((("a", (LONG, LONG)),), ("is", "a", LONG, 0, 1), (0, (("a", (LONG, LONG)),)))

    def test_all_small_ones(self):
        for facts, word, number, name in itertools.product(SMALL, ("less", "is"), range(-3, 3), ("a", "b", "c")):
            end = (word, name, number, 6, 7)
            told = leads(facts, end)
            self.assertEqual(told, tuple([row[1:] for row in plain_sides(facts, end)]))
            self.assertTrue(all([are_facts(there) for way, there in told]))
            answer = answer_of(known(facts, name), word, number)
            self.assertEqual([way for way, there in told], {"yes": [6], "no": [7], "open": [6, 7]}[answer])
            for way, there in told:
                self.assertEqual(known(there, name), part_of(known(facts, name), word, number, way == 6))

    def test_they_hold_where_one_comes_to(self):
        for facts, word, number in itertools.product(SMALL, ("less", "is"), range(-3, 3)):
            told = leads(facts, (word, "a", number, 6, 7))
            for worth in range(-5, 5):
                if lies_in(worth, known(facts, "a")):
                    way = 6 if (worth < number if word == "less" else worth == number) else 7
                    there = [some for at, some in told if at == way]
                    self.assertEqual(len(there), 1)
                    self.assertTrue(lies_in(worth, known(there[0], "a")))


class Start(unittest.TestCase):
    def test_each_name_is_nought(self):
        plan = (((("copy", "d", "b"),), ("less", "aa", 3, 0, 1)), ((("tell", "a"),), STOP))
        self.assertEqual(start(plan), (("a", (0, 0)), ("aa", (0, 0)), ("b", (0, 0)), ("d", (0, 0))))

    def test_no_names(self):
        self.assertEqual(start((((), STOP),)), ())

    def test_pieces_to_which_nothing_leads_count(self):
        self.assertEqual(start((((), STOP), ((("tell", "x"),), STOP))), (("x", (0, 0)),))

    def test_they_hold_where_all_is_nought(self):
        for plan in made_plans(40, 5):
            self.assertTrue(are_facts(start(plan)))
            self.assertTrue(holds(start(plan), {}))


class Kept(unittest.TestCase):
    def test_nothing_handed_in_is_changed(self):
        worths, facts, held = {"a": 1}, SOME, copy.deepcopy(SOME)
        deeds, end = (("put", "a", 3), ("read", "b")), ("less", "a", 3, 0, 1)
        answers = []
        for _ in range(2):
            answers.append((
                known(facts, "a"), with_known(facts, "a", (0, 0)), holds(facts, worths), covers(facts, facts),
                behind(facts, deeds), leads(facts, end),
            ))
            self.assertEqual(facts, held)
            self.assertEqual(worths, {"a": 1})
        self.assertEqual(answers[0], answers[1])

    def test_told_are_tuples(self):
        plan = (((("tell", "a"),), STOP),)
        for told in (known(SOME, "a"), known((), "a"), with_known(SOME, "a", (0, 0)), behind(SOME, ()), start(plan),
                     leads(SOME, STOP), leads(SOME, ("go", 0)), leads(SOME, ("less", "a", 3, 0, 1))):
            self.assertIs(told.__class__, tuple)
        for way, there in leads(SOME, ("less", "a", 3, 0, 1)):
            self.assertIs(there.__class__, tuple)
            self.assertTrue(all([row.__class__ is tuple for row in there]))


if __name__ == "__main__":
    unittest.main()
