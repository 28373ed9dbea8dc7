"""Points 8, 9 and 10: runs."""

import copy
import unittest

from ledpast.runs import run, run_at, seen
from made import Made, made_plans, plain_run

LONG = 10 ** 40 - 1
LONGER = 10 ** 60 - 1
STOP = ("stop",)
TELL = ("tell", "a")
# It reads and tells for ever.
ECHO = (((("read", "a"), ("tell", "a")), ("go", 0)),)
# It counts for ever: a step each for add, tell and go.
COUNT = (((("add", "a", 1), ("tell", "a")), ("go", 0)),)


def one_piece(*deeds):
    return ((deeds, STOP),)


def with_test(word, number):
    """Reads a number, and tells 1 where the test is answered yes, else 2."""
    return (
        ((("read", "a"),), (word, "a", number, 1, 2)),
        ((("put", "b", 1), ("tell", "b")), STOP),
        ((("put", "b", 2), ("tell", "b")), STOP),
    )


class Deeds(unittest.TestCase):
    def told(self, *deeds):
        word, told = run(one_piece(*deeds), (7, 8, 9), 100)
        self.assertEqual(word, "stop")
        return told

    def test_all_names_are_worth_nought_at_first(self):
        self.assertEqual(self.told(TELL, ("tell", "zzzzzzzz")), (0, 0))

    def test_nothing_is_told_at_first(self):
        self.assertEqual(self.told(), ())

    def test_put(self):
        self.assertEqual(self.told(("put", "a", 3), TELL), (3,))
        self.assertEqual(self.told(("put", "a", 3), ("put", "a", -4), TELL), (-4,))
        self.assertEqual(self.told(("put", "b", 3), TELL), (0,))

    def test_copy(self):
        self.assertEqual(self.told(("put", "b", 5), ("copy", "a", "b"), TELL, ("tell", "b")), (5, 5))
        self.assertEqual(self.told(("put", "a", 5), ("copy", "a", "b"), TELL, ("tell", "b")), (0, 0))
        self.assertEqual(self.told(("put", "a", 5), ("copy", "a", "a"), TELL), (5,))

    def test_a_copy_does_not_follow_the_other(self):
        self.assertEqual(self.told(("put", "b", 5), ("copy", "a", "b"), ("put", "b", 6), TELL), (5,))

    def test_add(self):
        self.assertEqual(self.told(("add", "a", 4), TELL, ("add", "a", -6), TELL, ("add", "a", 0), TELL), (4, -2, -2))

    def test_read_from_the_first_number_on(self):
        self.assertEqual(self.told(("read", "a"), TELL, ("read", "b"), TELL, ("read", "a"), TELL), (7, 7, 9))

    def test_tell_behind_all_that_is_told(self):
        self.assertEqual(self.told(TELL, ("put", "a", 1), TELL, ("put", "a", -1), TELL, TELL), (0, 1, -1, -1))

    def test_deeds_are_done_in_order(self):
        self.assertEqual(self.told(("put", "a", 1), ("copy", "b", "a"), ("add", "a", 1), ("copy", "cc", "b"),
                                   ("tell", "b"), ("tell", "cc"), TELL), (1, 1, 2))

    def test_many_figures(self):
        self.assertEqual(self.told(("put", "a", LONG), ("add", "a", LONG), TELL), (2 * LONG,))
        self.assertEqual(self.told(("put", "a", -LONG), ("add", "a", -LONG), TELL), (-2 * LONG,))
        self.assertEqual(run(one_piece(("read", "a"), TELL), (-LONG,), 9), ("stop", (-LONG,)))

    def test_names_are_parted_by_all_their_letters(self):
        self.assertEqual(self.told(("put", "a", 1), ("put", "aa", 2), ("put", "ab", 3), ("tell", "aa"), TELL), (2, 1))


class Ends(unittest.TestCase):
    def test_go_leads_on(self):
        plan = (((), ("go", 2)), ((TELL,), STOP), ((("add", "a", 5),), ("go", 1)))
        self.assertEqual(run(plan, (), 9), ("stop", (5,)))
        self.assertEqual(seen(plan, (), 9), (0, 2, 1))

    def test_less(self):
        for number, told in ((-3, 1), (3, 1), (4, 2), (5, 2), (LONG, 2), (-LONG, 1)):
            self.assertEqual(run(with_test("less", 4), (number,), 9), ("stop", (told,)), number)
            self.assertEqual(seen(with_test("less", 4), (number,), 9), (0, told), number)

    def test_is(self):
        for number, told in ((-4, 2), (3, 2), (4, 1), (5, 2), (LONG, 2), (-LONG, 2)):
            self.assertEqual(run(with_test("is", 4), (number,), 9), ("stop", (told,)), number)
            self.assertEqual(seen(with_test("is", 4), (number,), 9), (0, told), number)

    def test_tests_by_a_number_of_forty_figures(self):
        for number, less, same in ((LONG - 1, 1, 2), (LONG, 2, 1), (LONG + 1, 2, 2)):
            self.assertEqual(run(with_test("less", LONG), (number,), 9)[1], (less,))
            self.assertEqual(run(with_test("is", LONG), (number,), 9)[1], (same,))

    def test_a_name_without_a_worth_is_tested_as_nought(self):
        plan = (((), ("is", "b", 0, 1, 2)), ((), STOP), ((TELL,), STOP))
        self.assertEqual(run(plan, (), 9), ("stop", ()))

    def test_a_test_is_asked_behind_the_deeds(self):
        plan = (((("put", "a", 1), ("put", "a", 2)), ("is", "a", 2, 1, 2)), ((TELL,), STOP), ((), STOP))
        self.assertEqual(run(plan, (), 9), ("stop", (2,)))

    def test_both_ways_to_one_piece(self):
        for word in ("less", "is"):
            plan = (((), (word, "a", 0, 1, 1)), ((TELL,), STOP))
            self.assertEqual(run(plan, (), 9), ("stop", (0,)))
            self.assertEqual(seen(plan, (), 9), (0, 1))


class Steps(unittest.TestCase):
    def check(self, plan, numbers, rows):
        for steps, word, told, pieces in rows:
            self.assertEqual(run(plan, numbers, steps), (word, told), steps)
            self.assertEqual(seen(plan, numbers, steps), pieces, steps)

    def test_each_deed_and_each_end_is_a_step(self):
        plan = (((TELL, ("put", "a", 2), TELL), ("go", 1)), ((), ("is", "a", 2, 2, 0)), ((TELL,), STOP))
        self.check(plan, (), (
            (0, "on", (), (0,)),
            (1, "on", (0,), (0,)),
            (2, "on", (0,), (0,)),
            (3, "on", (0, 2), (0,)),
            (4, "on", (0, 2), (0, 1)),
            (5, "on", (0, 2), (0, 1, 2)),
            (6, "on", (0, 2, 2), (0, 1, 2)),
            (7, "stop", (0, 2, 2), (0, 1, 2)),
            (8, "stop", (0, 2, 2), (0, 1, 2)),
            (2000, "stop", (0, 2, 2), (0, 1, 2)),
        ))

    def test_a_stop_does_nothing_else_and_is_the_end(self):
        self.check((((), STOP),), (1, 2), ((0, "on", (), (0,)), (1, "stop", (), (0,)), (2, "stop", (), (0,))))

    def test_a_read_without_a_number_is_the_end(self):
        self.check(ECHO, (5,), (
            (0, "on", (), (0,)),
            (1, "on", (), (0,)),
            (2, "on", (5,), (0,)),
            (3, "on", (5,), (0, 0)),
            (4, "dry", (5,), (0, 0)),
            (5, "dry", (5,), (0, 0)),
            (2000, "dry", (5,), (0, 0)),
        ))

    def test_no_numbers(self):
        self.check(ECHO, (), ((0, "on", (), (0,)), (1, "dry", (), (0,)), (2, "dry", (), (0,))))
        self.check(COUNT, (), ((3, "on", (1,), (0, 0)),))

    def test_numbers_that_are_not_read(self):
        self.check(COUNT, (1, 2, 3), ((6, "on", (1, 2), (0, 0, 0)),))

    def test_the_last_number_is_read(self):
        self.assertEqual(run(one_piece(("read", "a"), TELL), (6,), 3), ("stop", (6,)))
        self.assertEqual(run(one_piece(("read", "a"), ("read", "b"), TELL), (6,), 9), ("dry", ()))

    def test_two_hundred_numbers(self):
        numbers = tuple(range(200))
        self.assertEqual(run(ECHO, numbers, 2000), ("dry", numbers))
        self.assertEqual(run(ECHO, numbers, 600), ("on", numbers))
        self.assertEqual(run(ECHO, numbers, 601), ("dry", numbers))
        self.assertEqual(seen(ECHO, numbers, 2000), (0,) * 201)

    def test_two_thousand_steps(self):
        self.assertEqual(run(COUNT, (), 1999), ("on", tuple(range(1, 667))))
        self.assertEqual(run(COUNT, (), 2000), ("on", tuple(range(1, 668))))
        self.assertEqual(seen(COUNT, (), 2000), (0,) * 667)
        self.assertEqual(seen((((), ("go", 0)),), (), 2000), (0,) * 2001)
        self.assertEqual(run((((), ("go", 0)),), (), 2000), ("on", ()))

    def test_a_long_row_of_pieces(self):
        plan = tuple([((("add", "a", 1),), ("go", at + 1)) for at in range(399)]) + (((TELL,), STOP),)
        self.assertEqual(run(plan, (), 799), ("on", (399,)))
        self.assertEqual(run(plan, (), 800), ("stop", (399,)))
        self.assertEqual(seen(plan, (), 2000), tuple(range(400)))

    def test_made_plans_step_by_step(self):
        made = Made(3)
        for plan in made_plans(150, 6):
            numbers = made.numbers(4)
            for steps in list(range(20)) + [100]:
                word, told, pieces = plain_run(plan, numbers, steps)
                self.assertEqual(run(plan, numbers, steps), (word, told), (plan, numbers, steps))
                self.assertEqual(seen(plan, numbers, steps), pieces, (plan, numbers, steps))


class RunAt(unittest.TestCase):
    PLAN = (
        ((("tell", "b"),), ("go", 1)),
        ((("tell", "a"), ("add", "a", 1)), ("less", "a", 3, 1, 2)),
        ((("read", "b"), ("tell", "b")), STOP),
    )

    def check(self, piece, worths, numbers, steps, told):
        self.assertEqual(run_at(self.PLAN, piece, worths, numbers, steps), told)

    def test_begins_at_the_piece(self):
        self.check(0, {}, (9,), 50, ("stop", (0, 0, 1, 2, 9)))
        self.check(1, {}, (9,), 50, ("stop", (0, 1, 2, 9)))
        self.check(2, {}, (9,), 50, ("stop", (9,)))

    def test_names_are_worth_what_the_worths_tell(self):
        self.check(1, {"a": -1}, (9,), 50, ("stop", (-1, 0, 1, 2, 9)))
        self.check(1, {"a": 7}, (9,), 50, ("stop", (7, 9)))
        self.check(0, {"a": 7, "b": 8}, (9,), 50, ("stop", (8, 7, 9)))

    def test_a_name_that_the_worths_lack_is_worth_nought(self):
        self.check(0, {"a": 7}, (9,), 50, ("stop", (0, 7, 9)))
        self.check(0, {"other": 7}, (9,), 50, ("stop", (0, 0, 1, 2, 9)))

    def test_words_and_steps(self):
        self.check(2, {}, (), 0, ("on", ()))
        self.check(2, {}, (), 1, ("dry", ()))
        self.check(2, {"b": 4}, (), 9, ("dry", ()))
        self.check(2, {"b": 4}, (5,), 2, ("on", (5,)))
        self.check(2, {"b": 4}, (5,), 3, ("stop", (5,)))
        self.check(1, {"a": 0}, (), 4, ("on", (0, 1)))

    def test_worths_of_sixty_figures(self):
        plan = (((), STOP), ((("tell", "a"), ("add", "a", LONG), ("tell", "a")), STOP))
        self.assertEqual(run_at(plan, 1, {"a": LONGER}, (), 9), ("stop", (LONGER, LONGER + LONG)))
        self.assertEqual(run_at(plan, 1, {"a": -LONGER}, (), 9), ("stop", (-LONGER, LONG - LONGER)))

    def test_at_piece_nought_without_worths_it_is_the_run(self):
        made = Made(5)
        for plan in made_plans(60, 6):
            numbers = made.numbers(4)
            for steps in (0, 1, 7, 60):
                self.assertEqual(run_at(plan, 0, {}, numbers, steps), run(plan, numbers, steps))
                self.assertEqual(run_at(plan, 0, {"a": 0, "cc": 0}, numbers, steps), run(plan, numbers, steps))

    def test_made_plans(self):
        made = Made(7)
        for plan in made_plans(100, 6):
            for at in range(len(plan)):
                numbers, worths = made.numbers(4), {"a": made.number(), "b": made.number()}
                for steps in (0, 3, 9, 60):
                    told = plain_run(plan, numbers, steps, at, worths)[:2]
                    self.assertEqual(run_at(plan, at, worths, numbers, steps), told)


class Kept(unittest.TestCase):
    def test_nothing_handed_in_is_changed(self):
        plan = RunAt.PLAN
        held, worths, numbers = copy.deepcopy(plan), {"a": 1}, (3, 4)
        answers = []
        for _ in range(2):
            answers.append((run_at(plan, 0, worths, numbers, 50), run(plan, numbers, 50), seen(plan, numbers, 50)))
            self.assertEqual((plan, worths, numbers), (held, {"a": 1}, (3, 4)))
        self.assertEqual(answers[0], answers[1])

    def test_the_worths_are_not_changed_though_all_names_are_used(self):
        worths = {"a": 1, "q": 5}
        plan = one_piece(("put", "a", 9), ("read", "b"), ("copy", "cc", "d"), ("add", "e", 1), ("tell", "f"))
        run_at(plan, 0, worths, (1,), 9)
        self.assertEqual(worths, {"a": 1, "q": 5})
        run_at((((), ("is", "g", 0, 0, 0)),), 0, worths, (1,), 9)
        self.assertEqual(worths, {"a": 1, "q": 5})

    def test_told_are_tuples(self):
        for told in (run(COUNT, (), 9), run(COUNT, (), 0), run_at(COUNT, 0, {}, (), 9)):
            self.assertIs(told.__class__, tuple)
            self.assertIs(told[0].__class__, str)
            self.assertIs(told[1].__class__, tuple)
        self.assertIs(seen(COUNT, (), 9).__class__, tuple)


if __name__ == "__main__":
    unittest.main()
