"""Point 22, and 3 of it: walkers."""

import copy
import unittest

from ledpast.runs import run, seen
from ledpast.walkers import Walker
from made import NAMES, Made, made_plans
from worked import plain_walk

LONG = 10 ** 40 - 1
STOP = ("stop",)
TELL = ("tell", "a")
READ = ("read", "a")
# It reads and tells for ever: a step each for read, tell and go.
ECHO = (((READ, TELL), ("go", 0)),)
COUNT = (((("add", "a", 1), TELL), ("go", 0)),)
# It tells 7, goes to piece 1, reads, and tells what it read where that is below nought, ahead of a stop.
PLAN = (
    ((("put", "b", 7), ("tell", "b")), ("go", 1)),
    ((READ,), ("less", "a", 0, 2, 1)),
    ((TELL,), STOP),
)


class WalkerCase(unittest.TestCase):
    def check(self, walker, word, piece, told, steps, **worths):
        self.assertEqual((walker.word(), walker.piece(), walker.told(), walker.steps()), (word, piece, told, steps))
        for name, worth in worths.items():
            self.assertEqual(walker.worth(name), worth)


class Begin(WalkerCase):
    def test_a_new_walker(self):
        for plan, word in ((COUNT, "on"), (PLAN, "on"), ((((), STOP),), "on"), (ECHO, "dry")):
            self.check(Walker(plan), word, 0, (), 0, a=0, b=0, zzzzzzzz=0)

    def test_it_is_dry_at_once_where_it_begins_at_a_read(self):
        walker = Walker(ECHO)
        self.assertEqual(walker.word(), "dry")
        walker.hand((4,))
        self.assertEqual(walker.word(), "on")


class Go(WalkerCase):
    def test_step_by_step(self):
        walker = Walker(PLAN)
        walker.hand((3, -2, 9))
        rows = (
            ("on", 0, (), 0, 7), ("on", 0, (7,), 0, 7), ("on", 1, (7,), 0, 7), ("on", 1, (7,), 3, 7), ("on", 1, (7,), 3, 7),
            ("on", 1, (7,), -2, 7), ("on", 2, (7,), -2, 7), ("on", 2, (7, -2), -2, 7), ("stop", 2, (7, -2), -2, 7),
        )
        for at, (word, piece, told, a, b) in enumerate(rows):
            self.assertEqual(walker.go(1), 1)
            self.check(walker, word, piece, told, at + 1, a=a, b=b)
        for many in (0, 1, 2000):
            self.assertEqual(walker.go(many), 0)
            self.check(walker, "stop", 2, (7, -2), 9, a=-2, b=7)

    def test_a_stop_is_a_step(self):
        walker = Walker((((), STOP),))
        self.assertEqual(walker.go(0), 0)
        self.check(walker, "on", 0, (), 0)
        self.assertEqual(walker.go(1), 1)
        self.check(walker, "stop", 0, (), 1)
        self.assertEqual(walker.go(1), 0)
        self.check(walker, "stop", 0, (), 1)
        self.assertEqual(Walker((((), STOP),)).go(2000), 1)

    def test_no_further_than_a_stop(self):
        walker = Walker(PLAN)
        walker.hand((-1, -1, -1))
        self.assertEqual(walker.go(2000), 7)
        self.check(walker, "stop", 2, (7, -1), 7)

    def test_it_waits_at_a_read_and_that_is_no_step(self):
        walker = Walker(PLAN)
        self.assertEqual(walker.go(2000), 3)
        for many in (0, 1, 2, 2000):
            self.check(walker, "dry", 1, (7,), 3, a=0)
            self.assertEqual(walker.go(many), 0)
        walker.hand((5,))
        # What was handed in does no step, but it is not dry any more.
        self.check(walker, "on", 1, (7,), 3, a=0)
        self.assertEqual(walker.go(1), 1)
        self.check(walker, "on", 1, (7,), 4, a=5)
        self.assertEqual(walker.go(2000), 1)
        self.check(walker, "dry", 1, (7,), 5, a=5)
        walker.hand((-5,))
        self.assertEqual(walker.go(2000), 4)
        self.check(walker, "stop", 2, (7, -5), 9, a=-5)

    def test_it_stands_at_a_read_without_having_been_told_to_do_it(self):
        walker = Walker(PLAN)
        self.assertEqual(walker.go(3), 3)
        self.assertEqual(walker.word(), "dry")
        self.assertEqual(Walker(PLAN).go(2), 2)
        walker = Walker(PLAN)
        walker.go(2)
        self.assertEqual(walker.word(), "on")

    def test_a_read_behind_other_deeds(self):
        walker = Walker((((TELL, READ, TELL, READ, TELL), STOP),))
        walker.hand((1,))
        self.assertEqual(walker.go(9), 3)
        self.check(walker, "dry", 0, (0, 1), 3)
        walker.hand((2,))
        self.assertEqual(walker.go(9), 3)
        self.check(walker, "stop", 0, (0, 1, 2), 6)

    def test_by_nought_and_by_two_thousand(self):
        walker = Walker(COUNT)
        self.assertEqual(walker.go(0), 0)
        self.check(walker, "on", 0, (), 0, a=0)
        self.assertEqual(walker.go(2000), 2000)
        self.check(walker, "on", 0, tuple(range(1, 668)), 2000, a=667)
        self.assertEqual(walker.go(0), 0)
        self.check(walker, "on", 0, tuple(range(1, 668)), 2000, a=667)

    def test_it_keeps_its_place_within_a_piece(self):
        walker = Walker(COUNT)
        for told in ((), (1,), (1,), (1,), (1, 2), (1, 2)):
            self.assertEqual(walker.go(1), 1)
            self.assertEqual(walker.told(), told)

    def test_numbers_of_forty_figures(self):
        walker = Walker((((READ, ("add", "a", LONG), TELL), ("is", "a", 2 * LONG, 1, 0)), ((), STOP)))
        walker.hand((-LONG, LONG))
        self.assertEqual(walker.go(9), 9)
        self.check(walker, "stop", 1, (0, 2 * LONG), 9, a=2 * LONG)


class Hand(WalkerCase):
    def test_it_tells_nothing(self):
        self.assertIsNone(Walker(ECHO).hand(()))
        self.assertIsNone(Walker(ECHO).hand((1, 2)))

    def test_none_at_all(self):
        walker = Walker(ECHO)
        walker.hand(())
        self.assertEqual(walker.word(), "dry")
        self.assertEqual(walker.go(5), 0)

    def test_behind_those_that_are_not_read_yet(self):
        walker = Walker(ECHO)
        walker.hand((1, 2))
        walker.hand((3,))
        walker.go(4)
        walker.hand(())
        walker.hand((4, 5))
        self.assertEqual(walker.go(100), 11)
        self.check(walker, "dry", 0, (1, 2, 3, 4, 5), 15)

    def test_behind_a_stop(self):
        walker = Walker(((((READ,), STOP)),))
        walker.hand((1,))
        walker.go(2)
        walker.hand((2,))
        self.assertEqual(walker.go(9), 0)
        self.check(walker, "stop", 0, (), 2, a=1)

    def test_two_hundred_at_a_time_a_thousand_in_all(self):
        for rows in ([200] * 5, [1] * 1000, [0, 200, 1, 199, 200, 200, 0, 200]):
            walker, begin = Walker(ECHO), 0
            for many in rows:
                walker.hand(tuple(range(begin, begin + many)))
                begin += many
            self.assertEqual([walker.go(2000), walker.go(2000), walker.go(2000)], [2000, 1000, 0])
            self.check(walker, "dry", 0, tuple(range(1000)), 3000, a=999)

    def test_ten_thousand_steps_in_all(self):
        walker = Walker(COUNT)
        self.assertEqual([walker.go(2000) for _ in range(5)], [2000] * 5)
        self.check(walker, "on", 0, tuple(range(1, 3334)), 10000, a=3334)

    def test_somewhat_more_is_not_refused(self):
        walker = Walker(COUNT)
        self.assertEqual([walker.go(2500) for _ in range(5)], [2500] * 5)
        self.assertEqual(walker.steps(), 12500)
        walker = Walker(ECHO)
        for _ in range(5):
            walker.hand(tuple(range(210)))
        self.assertEqual(walker.go(4000), 3150)


class Bits(WalkerCase):
    """Numbers bit by bit and at once, and what a run tells."""

    def same(self, walker, plan, numbers, steps):
        done, word, piece, told, worths = plain_walk(plan, numbers, steps)
        self.check(walker, word, piece, told, done, **{name: worths.get(name, 0) for name in NAMES})
        return done

    def test_calls_in_any_order(self):
        made, words = Made(53), {"stop": 0, "dry": 0, "on": 0}
        for plan in made_plans(250, 6):
            walker, handed, done = Walker(plan), (), 0
            for _ in range(14):
                if made.below(2):
                    numbers = made.numbers(3)
                    walker.hand(numbers)
                    handed += numbers
                    self.same(walker, plan, handed, done)
                else:
                    many = made.below(8)
                    was = done
                    done = plain_walk(plan, handed, done + many)[0]
                    self.assertEqual(walker.go(many), done - was)
                    self.same(walker, plan, handed, done)
                words[walker.word()] += 1
        self.assertGreater(min(words.values()), 100)

    def test_bit_by_bit_and_at_once(self):
        made = Made(59)
        for plan in made_plans(200, 6):
            numbers = made.numbers(8)
            once, bits = Walker(plan), Walker(plan)
            once.hand(numbers)
            for number in numbers:
                bits.go(made.below(9))
                bits.hand((number,))
            once.go(bits.steps())
            self.assertEqual(once.steps(), bits.steps())
            for _ in range(6):
                many = made.below(30)
                self.assertEqual(once.go(many), bits.go(many))
                self.check(bits, once.word(), once.piece(), once.told(), once.steps(), a=once.worth("a"), b=once.worth("b"))

    def test_beside_runs(self):
        made = Made(61)
        for plan in made_plans(200, 6):
            numbers, steps = made.numbers(5), made.below(30)
            walker = Walker(plan)
            walker.hand(numbers)
            done = walker.go(steps)
            word, told = run(plan, numbers, steps)
            self.assertEqual(walker.told(), told)
            self.assertEqual(walker.piece(), seen(plan, numbers, steps)[-1])
            self.assertEqual(word == "stop", walker.word() == "stop")
            self.assertEqual(word == "dry", walker.word() == "dry" and done < steps)

    def test_one_number_at_a_time_where_it_waits(self):
        walker = Walker(ECHO)
        for number in range(1000):
            self.assertEqual(walker.word(), "dry")
            walker.hand((number,))
            self.assertEqual(walker.go(2000), 3)
        self.check(walker, "dry", 0, tuple(range(1000)), 3000)


class Apart(WalkerCase):
    def test_two_walkers_of_one_plan(self):
        one, other = Walker(PLAN), Walker(PLAN)
        one.hand((1, -1))
        one.go(5)
        self.check(other, "on", 0, (), 0, a=0, b=0)
        other.hand((-9,))
        self.assertEqual(other.go(6), 6)
        self.check(one, "on", 1, (7,), 5, a=1, b=7)
        self.check(other, "on", 2, (7, -9), 6, a=-9, b=7)
        one.go(100)
        self.check(one, "stop", 2, (7, -1), 9, a=-1)
        self.check(other, "on", 2, (7, -9), 6, a=-9)
        self.assertEqual(other.go(100), 1)
        self.check(other, "stop", 2, (7, -9), 7)

    def test_what_is_told_stays_as_it_was(self):
        walker = Walker(COUNT)
        walker.go(2)
        told = walker.told()
        walker.go(300)
        self.assertEqual(told, (1,))
        self.assertIs(told.__class__, tuple)

    def test_asking_changes_nothing(self):
        walker = Walker(PLAN)
        walker.go(2)
        for _ in range(2):
            self.check(walker, "on", 0, (7,), 2, a=0, b=7, zz=0)
            # A name that is asked for is no more than asked for.
            self.assertEqual(walker.worth("q"), 0)

    def test_nothing_handed_in_is_changed(self):
        plan, numbers = PLAN, (1, 2, -3)
        held = copy.deepcopy((plan, numbers))
        walker = Walker(plan)
        walker.hand(numbers)
        walker.go(100)
        self.assertEqual((plan, numbers), held)

    def test_kinds(self):
        walker = Walker(ECHO)
        walker.hand((3,))
        for told, kind in ((walker.go(2), int), (walker.word(), str), (walker.piece(), int), (walker.told(), tuple),
                           (walker.worth("a"), int), (walker.steps(), int)):
            self.assertIs(told.__class__, kind)


if __name__ == "__main__":
    unittest.main()
