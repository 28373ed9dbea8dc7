"""Points 2 and 3 over the whole program, and the interface's names and arguments."""

import copy
import importlib
import inspect
import unittest

from ledpast.alike import alike, joined, parting
from ledpast.desk import Desk
from ledpast.errors import PlanError
from ledpast.facts import behind, covers, holds, known, leads, start, with_known
from ledpast.keeper import Keeper
from ledpast.led import led_past, needed
from ledpast.live import live, spare
from ledpast.papers import paper_holds
from ledpast.plans import heads, is_plan, names_of, reached, ways_on
from ledpast.runs import run, run_at, seen
from ledpast.short import short
from ledpast.stretches import answer_of, is_stretch, is_within, lies_in, part_of
from ledpast.tables import stands, table_of
from ledpast.texts import piece_text, plan_text, read_number, read_piece, read_plan
from ledpast.walkers import Walker
from made import Made, made_plans
from worked import idle_plans

LONG = 10 ** 40 - 1
INTERFACE = {
    "stretches": ("is_stretch(thing)", "lies_in(number, stretch)", "is_within(one, other)", "answer_of(stretch, word, number)",
                  "part_of(stretch, word, number, side)"),
    "plans": ("is_plan(thing)", "names_of(plan)", "ways_on(end)", "reached(plan)", "heads(plan)"),
    "runs": ("run(plan, numbers, steps)", "seen(plan, numbers, steps)", "run_at(plan, piece, worths, numbers, steps)"),
    "facts": ("known(facts, name)", "with_known(facts, name, stretch)", "holds(facts, worths)", "covers(facts, others)",
              "behind(facts, deeds)", "leads(facts, end)", "start(plan)"),
    "led": ("led_past(plan, most)", "needed(plan)"),
    "papers": ("paper_holds(plan, other, paper)",),
    "short": ("short(plan)",),
    "walkers": ("Walker(plan)",),
    "tables": ("stands(plan, table)", "table_of(plan)"),
    "live": ("live(plan)", "spare(plan)"),
    "alike": ("alike(plan)", "parting(plan, one, other)", "joined(plan)"),
    "keeper": ("Keeper(plan, most)",),
    "texts": ("plan_text(plan)", "read_plan(text)", "piece_text(piece)", "read_piece(line, count, at)", "read_number(text)"),
    "desk": ("Desk(text)",),
    "errors": ("NoPlan(line)",),
}
METHODS = (
    (Walker, ("hand(self, numbers)", "go(self, many)", "word(self)", "piece(self)", "told(self)", "worth(self, name)", "steps(self)")),
    (Keeper, ("exchange(self, place, piece)", "plan(self)", "other(self)", "paper(self)", "made(self)")),
    (Desk, ("say(self, row)",)),
)


def told_of(plan, made):
    """What all functions tell of a plan, by one name each."""
    numbers, steps, count = made.numbers(5), made.below(30), len(plan)
    one, other = made.below(count), made.below(count)
    past, copies = led_past(plan, 1 + made.below(12))
    table, facts = table_of(plan), start(plan)
    worths = {"a": made.number(), "q": 4}
    deeds, end = plan[one]
    return {
        "is_plan": is_plan(plan), "names_of": names_of(plan), "ways_on": ways_on(end), "reached": reached(plan),
        "heads": heads(plan), "run": run(plan, numbers, steps), "seen": seen(plan, numbers, steps),
        "run_at": run_at(plan, one, worths, numbers, steps), "start": facts, "known": known(facts, "a"),
        "with_known": with_known(facts, "b", (None, 3)), "holds": holds(facts, worths), "covers": covers(facts, copies[-1][1]),
        "behind": behind(facts, deeds), "leads": leads(facts, end), "led_past": (past, copies), "needed": needed(plan),
        "paper_holds": paper_holds(plan, past, copies), "short": short(plan), "stands": stands(plan, table), "table_of": table,
        "live": live(plan), "spare": spare(plan), "alike": alike(plan), "parting": parting(plan, one, other),
        "joined": joined(plan), "plan_text": plan_text(plan), "read_plan": read_plan(plan_text(plan)),
        "piece_text": piece_text(plan[one]), "read_piece": read_piece(piece_text(plan[one]), count, 0),
        "walker": walked(plan, numbers, steps), "keeper": exchanged(plan, other, plan[one]), "desk": said(plan),
    }


def walked(plan, numbers, steps):
    walker = Walker(plan)
    return (walker.word(), walker.hand(numbers), walker.go(steps), walker.word(), walker.piece(), walker.told(),
            walker.worth("a"), walker.worth("zz"), walker.steps())


def exchanged(plan, place, piece):
    keeper = Keeper(plan, 40)
    return (keeper.exchange(place, piece), keeper.exchange(0, ((), ("go", len(plan) - 1))), keeper.plan(), keeper.other(),
            keeper.paper(), keeper.made())


def said(plan):
    desk, rows = Desk(plan_text(plan)), ("needed", "heads", "live 0", "alike 0 0", "run 9 1 2", "past 3", "short", "back", "plan")
    return tuple([desk.say(row) for row in rows])


class Told(unittest.TestCase):
    def is_told(self, thing):
        if thing.__class__ is tuple:
            for part in thing:
                self.is_told(part)
        else:
            self.assertIn(thing.__class__, (int, str, bool, None.__class__))

    def test_tuples_all_the_way_down(self):
        made = Made(127)
        for plan in made_plans(60, 7):
            for name, told in told_of(plan, made).items():
                with self.subTest(name):
                    self.is_told(told)

    def test_truths_are_truths(self):
        for told in (is_plan(()), is_plan((((), ("stop",)),)), is_stretch((1, 2)), is_stretch(3), lies_in(1, (1, 2)), is_within((1, 1), (0, 2)),
                     holds((), {}), covers((), ()), paper_holds((((), ("stop",)),), (((), ("stop",)),), ((0, ()),)),
                     stands((((), ("stop",)),), ((),)), stands((((), ("stop",)),), (None,))):
            self.assertIs(told.__class__, bool)

    def test_the_same_asked_again_is_answered_the_same(self):
        plans = made_plans(40, 7)
        first = [told_of(plan, Made(at)) for at, plan in enumerate(plans)]
        again = [told_of(plan, Made(at)) for at, plan in reversed(list(enumerate(plans)))]
        self.assertEqual(first, again[::-1])

    def test_nothing_that_is_handed_in_is_changed(self):
        plans = made_plans(40, 7)
        held = copy.deepcopy(plans)
        for at, plan in enumerate(plans):
            told_of(plan, Made(at))
        self.assertEqual(plans, held)
        worths = {"a": 3, "b": -1}
        for plan in plans:
            run_at(plan, 0, worths, (1, 2, 3), 50)
            holds(start(plan), worths)
        self.assertEqual(worths, {"a": 3, "b": -1})

    def test_worths_that_are_changed_later_are_no_matter(self):
        plan, worths = (((("tell", "a"), ("add", "a", 1)), ("go", 0)),), {"a": 3}
        told = run_at(plan, 0, worths, (), 5)
        worths["a"] = 9
        self.assertEqual(told, ("on", (3, 4)))
        self.assertEqual(run_at(plan, 0, worths, (), 5), ("on", (9, 10)))


class Again(unittest.TestCase):
    """What was told may be handed in again, also with more figures than were handed in."""

    def test_facts_copies_tables_and_plans(self):
        deeds = tuple([("add", "a", LONG)] * 12)
        plan = ((deeds, ("less", "a", LONG, 1, 2)), ((), ("stop",)), (deeds, ("less", "a", LONG, 1, 3)), ((("tell", "a"),), ("stop",)))
        past, copies = led_past(plan, 300)
        self.assertEqual(max([high for at, facts in copies for name, (low, high) in facts if high is not None]), 24 * LONG)
        self.assertTrue(paper_holds(plan, past, copies))
        self.assertTrue(stands(plan, table_of(plan)))
        self.assertEqual(covers(table_of(plan)[3], copies[-1][1]), True)
        for told in (past, short(plan)[0], spare(plan), joined(plan)[0], Keeper(plan, 3).other(), read_plan(plan_text(plan))):
            self.assertEqual(run(told, (), 100), ("stop", (24 * LONG,)))

    def test_numbers_that_a_run_told(self):
        told = run((((("add", "a", LONG), ("tell", "a")), ("go", 0)),), (), 60)[1]
        self.assertEqual(told[-1], 20 * LONG)
        echo = (((("read", "a"), ("tell", "a")), ("go", 0)),)
        self.assertEqual(run(echo, told, 2000), ("dry", told))
        walker = Walker(echo)
        walker.hand(told)
        walker.go(2000)
        self.assertEqual(walker.told(), told)
        self.assertEqual(part_of((None, None), "less", told[-1], True), (None, 20 * LONG - 1))
        self.assertEqual(answer_of((told[0], told[-1]), "is", 0), "no")

    def test_forty_figures_are_read_and_more_are_written(self):
        self.assertEqual(read_number(str(LONG)), LONG)
        self.assertIsNone(read_number(str(LONG + 1)))
        self.assertEqual(piece_text(((("put", "a", LONG + 1),), ("stop",))), f"put a {LONG + 1}; stop")


class Promise(unittest.TestCase):
    """Point 3, by plans that come one of the other."""

    def same(self, plan, other, made):
        numbers = made.numbers(6)
        for steps in list(range(10)) + [40, 200]:
            self.assertEqual(run(plan, numbers, steps), run(other, numbers, steps), (plan, other))

    def test_step_by_step(self):
        made = Made(131)
        for plan in made_plans(120, 7) + idle_plans(60, 7):
            past = led_past(plan, 30)[0]
            self.same(plan, past, made)
            self.same(plan, joined(plan)[0], made)
            self.same(plan, joined(past)[0], made)
            if len(joined(past)[0]) <= 60:
                self.same(plan, led_past(joined(past)[0], 300)[0], made)

    def test_in_no_more_steps(self):
        made, ends = Made(137), 0
        for plan in made_plans(120, 7) + idle_plans(60, 7):
            last = joined(spare(short(led_past(spare(short(plan)[0]), 30)[0])[0]))[0]
            numbers = made.numbers(6)
            for steps in list(range(10)) + [40, 200]:
                word, told = run(plan, numbers, steps)
                if word == "on":
                    self.assertEqual(run(last, numbers, steps)[1][:len(told)], told)
                else:
                    ends += 1
                    self.assertEqual(run(last, numbers, steps), (word, told))
        self.assertGreater(ends, 300)

    def test_a_keepers_paper_is_let_by(self):
        made = Made(139)
        for plan in made_plans(30, 6):
            keeper = Keeper(plan, 1 + made.below(30))
            for _ in range(10):
                keeper.exchange(made.below(len(plan)), made.piece(len(plan)))
                self.assertTrue(paper_holds(keeper.plan(), keeper.other(), keeper.paper()))
                self.same(keeper.plan(), keeper.other(), made)

    def test_tables_hold_wherever_a_walker_comes(self):
        made = Made(149)
        for plan in made_plans(80, 6):
            table, walker = table_of(plan), Walker(plan)
            walker.hand(made.numbers(6))
            for _ in range(40):
                before = walker.piece()
                walker.go(1)
                if walker.piece() != before:
                    self.assertTrue(holds(table[walker.piece()], {name: walker.worth(name) for name in names_of(plan)}))


class Interface(unittest.TestCase):
    def test_names_and_arguments(self):
        for module, rows in INTERFACE.items():
            for row in rows:
                name = row.partition("(")[0]
                thing = getattr(importlib.import_module(f"ledpast.{module}"), name)
                self.assertEqual(name + str(inspect.signature(thing)), row)
                self.assertEqual(thing.__module__, f"ledpast.{module}")

    def test_methods(self):
        for kind, rows in METHODS:
            for row in rows:
                name = row.partition("(")[0]
                self.assertEqual(name + str(inspect.signature(getattr(kind, name))), row)

    def test_refusals_are_value_errors(self):
        self.assertTrue(issubclass(PlanError, ValueError))
        with self.assertRaises(ValueError):
            Desk("halt")
        with self.assertRaises(ValueError):
            Desk("stop").say("halt")


if __name__ == "__main__":
    unittest.main()
