"""Points 26 and 27, and 3 of them: live names, and plans without spare deeds."""

import copy
import unittest

from ledpast.live import live, spare
from ledpast.plans import is_plan
from ledpast.runs import run, run_at
from beside import NoMoreSteps
from made import NAMES, Made, made_plans
from worked import plain_live, plain_spare

STOP = ("stop",)
TELL = ("tell", "a")
LETTERS = "abcdefghijklmnopqrstuvwxyz"


def put(name, number=1):
    return ("put", name, number)


def copied(name, other):
    return ("copy", name, other)


def add(name):
    return ("add", name, 1)


class Live(unittest.TestCase):
    def check(self, plan, *told):
        self.assertTrue(is_plan(plan))
        self.assertEqual(live(plan), told, plan)

    def at_deeds(self, deeds, told, end=STOP):
        """What is live at a piece with these deeds; behind a stop nothing is."""
        self.check((((deeds), end),), told)

    def test_nothing(self):
        self.at_deeds((), ())
        self.check((((), ("go", 1)), ((), STOP)), (), ())

    def test_tell(self):
        self.at_deeds((TELL,), ("a",))
        self.at_deeds((("tell", "b"), TELL, ("tell", "b")), ("a", "b"))

    def test_a_tests_name(self):
        for word in ("less", "is"):
            plan = (((), (word, "a", 0, 1, 2)), ((), STOP), ((("tell", "b"),), STOP))
            self.check(plan, ("a", "b"), (), ("b",))

    def test_put_and_read(self):
        for deed in (put("a"), ("read", "a")):
            self.at_deeds((deed, TELL), ())
            self.at_deeds((TELL, deed), ("a",))
            self.at_deeds((deed, ("tell", "b")), ("b",))
            self.check((((deed,), ("is", "a", 0, 1, 1)), ((), STOP)), (), ())
            self.check((((deed,), ("go", 1)), ((TELL, ("tell", "b")), STOP)), ("b",), ("a", "b"))

    def test_add(self):
        self.at_deeds((add("a"), TELL), ("a",))
        self.at_deeds((add("a"),), ())
        self.at_deeds((TELL, add("b")), ("a",))
        self.at_deeds((put("a"), add("a"), TELL), ())

    def test_copy(self):
        self.at_deeds((copied("a", "b"), TELL), ("b",))
        self.at_deeds((copied("a", "b"), TELL, ("tell", "b")), ("b",))
        self.at_deeds((copied("a", "b"),), ())
        self.at_deeds((copied("a", "b"), ("tell", "b")), ("b",))
        self.at_deeds((copied("a", "b"), put("a"), TELL), ())
        self.at_deeds((copied("a", "a"), TELL), ("a",))
        self.at_deeds((copied("a", "a"),), ())

    def test_copies_one_behind_the_other(self):
        self.at_deeds((copied("b", "c"), copied("a", "b"), TELL), ("c",))
        self.at_deeds((copied("a", "b"), copied("b", "c"), TELL), ("b",))
        self.at_deeds((copied("b", "c"), copied("a", "b"), TELL, ("tell", "b")), ("c",))
        # a and b exchanged by way of c
        self.at_deeds((copied("c", "a"), copied("a", "b"), copied("b", "c"), TELL), ("b",))
        self.at_deeds((copied("c", "a"), copied("a", "b"), copied("b", "c"), ("tell", "b")), ("a",))
        self.at_deeds((put("b"), copied("a", "b"), TELL), ())

    def test_of_a_test_behind_deeds(self):
        self.check((((copied("a", "b"), add("a")), ("less", "a", 1, 1, 1)), ((), STOP)), ("b",), ())
        self.check((((("tell", "b"), ("read", "a")), ("less", "a", 1, 1, 1)), ((), STOP)), ("b",), ())

    def test_ways_on_bring_what_is_live_there(self):
        plan = (
            ((put("b"),), ("less", "a", 0, 1, 2)),
            ((("tell", "b"), ("tell", "c")), STOP),
            ((copied("d", "e"),), ("go", 3)),
            ((("tell", "d"),), STOP),
        )
        self.check(plan, ("a", "c", "e"), ("b", "c"), ("e",), ("d",))

    def test_pieces_that_are_not_reached(self):
        self.check((((), STOP), ((TELL,), ("go", 2)), ((("tell", "b"),), STOP)), (), ("a", "b"), ("b",))

    def test_in_a_round(self):
        plan = (
            ((("read", "a"),), ("go", 1)),
            ((add("b"),), ("go", 2)),
            ((add("c"),), ("is", "a", 0, 3, 1)),
            ((("tell", "b"),), STOP),
        )
        # c is counted in the round, but nobody asks for it.
        self.check(plan, ("b",), ("a", "b"), ("a", "b"), ("b",))

    def test_the_least_sets(self):
        # Each of these would hold itself up, but nothing asks for them.
        self.check((((add("a"),), ("go", 0)),), ())
        self.check((((copied("a", "b"), copied("b", "a")), ("go", 0)),), ())
        self.check((((copied("a", "b"),), ("go", 1)), ((copied("b", "a"),), ("go", 0))), (), ())

    def test_a_name_is_handed_round_by_copies(self):
        plan = (((copied("a", "b"), copied("b", "c"), copied("c", "d")), ("is", "a", 0, 1, 0)), ((), STOP))
        self.check(plan, ("b", "c", "d"), ())
        plan = (((copied("c", "d"), copied("b", "c"), copied("a", "b")), ("is", "a", 0, 1, 0)), ((), STOP))
        self.check(plan, ("d",), ())

    def test_rising_as_texts(self):
        self.at_deeds((("tell", "b"), ("tell", "ab"), ("tell", "aa"), ("tell", "a"), ("tell", "zzzzzzzz")),
                      ("a", "aa", "ab", "b", "zzzzzzzz"))

    def test_four_hundred_pieces(self):
        row = tuple([((), ("go", at + 1)) for at in range(399)]) + (((TELL,), STOP),)
        self.check(row, *[("a",)] * 400)
        back = (((), ("go", 399)), ((TELL,), STOP)) + tuple([((), ("go", at - 1)) for at in range(2, 400)])
        self.check(back, *[("a",)] * 400)
        ring = tuple([((add("b"), TELL) if at == 7 else (add("a"),), ("go", (at + 1) % 400)) for at in range(400)])
        self.check(ring, *[("a",)] * 400)
        put_in_it = ring[:200] + (((put("a"),), ("go", 201)),) + ring[201:]
        live_there = [("a",)] * 8 + [()] * 193 + [("a",)] * 199
        self.check(put_in_it, *live_there)

    def test_a_ring_of_copies(self):
        # Each round hands a name one letter further, so all letters come to be live everywhere.
        pieces = [((copied(LETTERS[at % 25], LETTERS[at % 25 + 1]),), ("go", (at + 1) % 400)) for at in range(400)]
        pieces[399] = ((), ("is", "a", 0, 0, 0))
        plan = tuple(pieces)
        self.check(plan, *plain_live(plan))

    def test_very_many_names(self):
        names = [one + two + three for one in LETTERS for two in LETTERS for three in "abcdefgh"]
        plan = tuple([
            (tuple([("tell", name) for name in names[at * 12:at * 12 + 12]]), ("go", (at + 1) % 400)) for at in range(400)
        ])
        told = live(plan)
        self.assertEqual(set(told), {tuple(sorted(names[:4800]))})

    def test_made_plans(self):
        for plan in made_plans(800, 9):
            self.check(plan, *plain_live(plan))

    def test_two_runs_that_are_alike_in_live_names_are_alike(self):
        made, unlike = Made(71), 0
        for plan in made_plans(250, 6):
            names = live(plan)
            for at in range(len(plan)):
                worths = {name: made.number() for name in NAMES}
                others = {name: worths[name] if name in names[at] else made.number() for name in NAMES}
                unlike += worths != others
                numbers = made.numbers(5)
                for steps in (1, 4, 20, 60):
                    self.assertEqual(run_at(plan, at, worths, numbers, steps), run_at(plan, at, others, numbers, steps))
        self.assertGreater(unlike, 200)


class Spare(unittest.TestCase):
    def check(self, plan, *deeds):
        self.assertTrue(is_plan(plan))
        told = tuple([(kept, end) for kept, (_, end) in zip(deeds, plan)])
        self.assertEqual(spare(plan), told, plan)

    def of_deeds(self, deeds, kept):
        self.check(((deeds, STOP),), kept)

    def test_nothing_to_leave_out(self):
        for deeds in ((), (TELL,), (put("a"), TELL), (add("a"), TELL), (copied("a", "b"), TELL)):
            self.of_deeds(deeds, deeds)

    def test_put_copy_and_add(self):
        for deed in (put("a"), copied("a", "b"), add("a")):
            self.of_deeds((deed,), ())
            self.of_deeds((deed, ("tell", "b")), (("tell", "b"),))
            self.of_deeds((("tell", "a"), deed), (("tell", "a"),))
            self.of_deeds((deed, put("a"), TELL), (put("a"), TELL))
            self.of_deeds((deed, ("read", "a"), TELL), (("read", "a"), TELL))

    def test_read_and_tell_are_never_spare(self):
        self.of_deeds((("read", "a"),), (("read", "a"),))
        self.of_deeds((("read", "a"), ("read", "a"), TELL), (("read", "a"), ("read", "a"), TELL))
        self.of_deeds((TELL, TELL), (TELL, TELL))

    def test_one_behind_the_other(self):
        self.of_deeds((put("a"), add("a"), copied("b", "a"), add("b"), copied("c", "b")), ())
        self.of_deeds((put("a"), put("a", 2), add("a"), TELL), (put("a", 2), add("a"), TELL))
        self.of_deeds((put("a"), add("a"), copied("b", "a"), TELL), (put("a"), add("a"), TELL))
        self.of_deeds((put("b"), copied("a", "b"), put("a", 3), TELL), (put("a", 3), TELL))

    def test_a_copy_to_itself(self):
        # Its name is live behind it, so it is not spare, though it does nothing.
        self.of_deeds((copied("a", "a"), TELL), (copied("a", "a"), TELL))
        self.of_deeds((copied("a", "a"),), ())

    def test_by_what_is_live_behind_the_piece(self):
        plan = (
            ((put("a"), put("b"), put("c")), ("less", "c", 0, 1, 2)),
            ((TELL, add("c")), ("go", 2)),
            ((put("b", 5), copied("a", "c")), STOP),
        )
        self.check(plan, (put("a"), put("c")), (TELL,), ())

    def test_a_tests_name_is_asked_for_behind_all_deeds(self):
        self.check((((put("a"), TELL, add("a")), ("is", "a", 0, 1, 1)), ((), STOP)), (put("a"), TELL, add("a")), ())

    def test_in_a_round(self):
        plan = (
            ((put("c", 0), ("read", "a")), ("go", 1)),
            ((add("b"), add("c"), copied("d", "c")), ("is", "b", 9, 2, 1)),
            ((TELL,), STOP),
        )
        self.check(plan, (("read", "a"),), (add("b"),), (TELL,))

    def test_pieces_stay_that_are_not_reached_or_get_idle(self):
        plan = (((put("a"),), ("go", 2)), ((put("a"), TELL, add("a")), ("go", 1)), ((add("b"),), STOP))
        # The name is live behind the add of piece 1: it comes round to its tell.
        self.check(plan, (), (put("a"), TELL), ())
        plan = (((), STOP), ((TELL, add("a")), ("go", 1)))
        self.check(plan, (), (TELL, add("a")))

    def test_twelve_deeds_in_four_hundred_pieces(self):
        deeds = (put("a"), add("a"), copied("b", "a"), add("b"), copied("c", "b"), add("c"), copied("d", "c"), add("d"),
                 copied("e", "d"), add("e"), copied("f", "e"), add("f"))
        plan = tuple([(deeds, ("go", (at + 1) % 400)) for at in range(400)])
        self.check(plan, *[()] * 400)
        plan = plan[:399] + (((("tell", "f"),), ("go", 0)),)
        self.check(plan, *[()] * 398 + [deeds, (("tell", "f"),)])

    def test_made_plans(self):
        for plan in made_plans(800, 9):
            self.assertEqual(spare(plan), plain_spare(plan), plan)
            self.assertEqual(spare(spare(plan)), spare(plan))
            self.assertEqual(live(spare(plan)), live(plan))


class Runs(NoMoreSteps, unittest.TestCase):
    def rows(self):
        return [(plan, spare(plan), 13) for plan in made_plans(250, 7)]

    def test_thirteen_times_as_many(self):
        plan = (((put("b"),) * 12, ("go", 1)), ((TELL,), ("go", 0)))
        self.assertEqual(run(spare(plan), (), 2), ("on", (0,)))
        self.assertEqual(run(plan, (), 13), ("on", ()))
        self.assertEqual(run(plan, (), 14), ("on", (0,)))


class Kept(unittest.TestCase):
    def test_nothing_handed_in_is_changed(self):
        for plan in made_plans(20, 7):
            held = copy.deepcopy(plan)
            self.assertEqual((live(plan), spare(plan)), (live(plan), spare(plan)))
            self.assertEqual(plan, held)

    def test_told_are_tuples(self):
        for plan in made_plans(20, 7):
            self.assertTrue(is_plan(spare(plan)))
            told = live(plan)
            self.assertEqual([thing.__class__ for thing in (told,) + told], [tuple] * (len(plan) + 1))


if __name__ == "__main__":
    unittest.main()
