"""Asks of plans, and of others that are to tell the same in no more steps, whether they do."""

from ledpast.runs import run
from made import Made


class NoMoreSteps:
    """For a test case that has rows(): (plan, the other, how many times as many steps the plan may need)."""

    def test_it_ends_wherever_the_plan_does_in_no_more_steps(self):
        made, ends = Made(41), {"stop": 0, "dry": 0, "on": 0}
        for plan, other, _ in self.rows():
            numbers = made.numbers(5)
            for steps in list(range(20)) + [60, 300]:
                word, told = run(plan, numbers, steps)
                ends[word] += 1
                if word != "on":
                    self.assertEqual(run(other, numbers, steps), (word, told), (plan, numbers, steps))
        self.assertGreater(min(ends.values()), 300)

    def test_what_one_tells_is_a_beginning_of_what_the_other_tells(self):
        made = Made(43)
        for plan, other, times in self.rows():
            numbers = made.numbers(5)
            for steps in list(range(20)) + [60]:
                mine, others = run(plan, numbers, steps)[1], run(other, numbers, steps)[1]
                self.assertEqual(mine, others[:len(mine)], (plan, numbers, steps))
                late = run(plan, numbers, times * steps)[1]
                self.assertEqual(others, late[:len(others)], (plan, numbers, steps))
