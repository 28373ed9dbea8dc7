"""Points 35 and 36: the desk."""

import re
import unittest

from ledpast.alike import joined, parting
from ledpast.desk import Desk
from ledpast.errors import NoPiece, NoPlan, NoRow, NothingLeft, PlanError, TooMany
from ledpast.led import led_past, needed
from ledpast.live import live, spare
from ledpast.plans import heads
from ledpast.runs import run
from ledpast.short import short
from ledpast.texts import plan_text, read_plan
from made import Made, made_plans
from worked import NUMBER, plain_piece

LONG = 10 ** 40 - 1
TEXT = "read a; put c 1; less a 0 1 2\nput b 1; go 3\nput b 2; go 3\ntell b; is b 1 4 5\ngo 5\ntell a; stop"
PLAN = read_plan(TEXT)
SIGNS = [chr(code) for code in range(32, 127) if chr(code) != "%"] + ["\n"]
# Led past, it would have far more than 300 copies: each test parts the ways that are known.
WIDE = "\n".join([f"read {name}; less {name} 0 {at + 1} {at + 1}" for at, name in enumerate("abcdefghijkl")] + ["stop"])


class DeskCase(unittest.TestCase):
    def refused(self, desk, row, error, line=None):
        before = desk.say("plan")
        with self.assertRaises(error) as caught:
            desk.say(row)
        self.assertIs(caught.exception.__class__, error, row)
        self.assertIsInstance(caught.exception, PlanError)
        if error is NoPlan:
            self.assertEqual(caught.exception.line, line, row)
        self.assertEqual(desk.say("plan"), before)

    def no_row(self, *rows):
        desk = Desk(TEXT)
        for row in rows:
            self.refused(desk, row, NoRow)
        self.refused(desk, "back", NothingLeft)


class Begin(DeskCase):
    def test_the_plan_of_the_text(self):
        for text in (TEXT, "stop", "go 0", "\n".join(["go 399"] * 400)):
            self.assertEqual(Desk(text).say("plan"), text)

    def test_refused_texts(self):
        for text, line in (("", 0), ("stop\n", 1), ("halt", 0), ("stop\nstop\ngo 3", 2), ("tell a; " * 13 + "stop", 0)):
            with self.assertRaises(NoPlan) as caught:
                Desk(text)
            self.assertEqual(caught.exception.line, line)
        with self.assertRaises(TooMany):
            Desk("\n".join(["stop"] * 401))
        with self.assertRaises(TooMany):
            Desk("\n" * 400)


class Deeds(DeskCase):
    def does(self, desk, row, plan):
        self.assertEqual(desk.say(row), "ok")
        self.assertEqual(desk.say("plan"), plan_text(plan))

    def test_piece(self):
        desk = Desk(TEXT)
        piece = ((("tell", "c"),), ("go", 0))
        self.does(desk, "piece 4 tell c; go 0", PLAN[:4] + (piece,) + PLAN[5:])
        self.does(desk, "piece 0 stop", (((), ("stop",)),) + PLAN[1:4] + (piece,) + PLAN[5:])
        self.does(desk, "piece 5 tell a; less a 5 0 5",
                  (((), ("stop",)),) + PLAN[1:4] + (piece, ((("tell", "a"),), ("less", "a", 5, 0, 5))))

    def test_past(self):
        for most in (1, 2, 3, 7, 300):
            self.does(Desk(TEXT), f"past {most}", led_past(PLAN, most)[0])
        for plan in made_plans(40, 7):
            self.does(Desk(plan_text(plan)), "past 300", led_past(plan, 300)[0])

    def test_short(self):
        self.does(Desk(TEXT), "short", short(PLAN)[0])
        self.assertNotEqual(short(PLAN)[0], PLAN)

    def test_spare(self):
        self.does(Desk(TEXT), "spare", spare(PLAN))
        self.assertNotEqual(spare(PLAN), PLAN)

    def test_joined(self):
        text = "less a 0 1 2\ntell a; stop\ntell a; stop"
        self.does(Desk(text), "joined", read_plan("less a 0 1 1\ntell a; stop"))
        self.does(Desk(TEXT), "joined", joined(PLAN)[0])

    def test_one_behind_the_other(self):
        desk = Desk(TEXT)
        plan = led_past(PLAN, 300)[0]
        self.does(desk, "past 300", plan)
        plan = short(plan)[0]
        self.does(desk, "short", plan)
        plan = spare(plan)
        self.does(desk, "spare", plan)
        plan = joined(plan)[0]
        self.does(desk, "joined", plan)
        self.assertEqual(desk.say("plan"),
                         "read a; less a 0 1 2\nput b 1; go 3\nput b 2; go 3\ntell b; go 4\ntell a; stop")

    def test_no_more_pieces_than_there_are_then(self):
        desk = Desk("go 1\nstop")
        self.does(desk, "piece 1 go 1", (((), ("go", 1)), ((), ("go", 1))))
        self.does(desk, "short", (((), ("go", 0)),))
        self.refused(desk, "piece 1 stop", NoPiece)
        self.refused(desk, "piece 0 go 1", NoPlan, 0)
        self.assertEqual(desk.say("back"), "ok")
        self.does(desk, "piece 1 stop", (((), ("go", 1)), ((), ("stop",))))

    def test_made_plans(self):
        for plan in made_plans(60, 7):
            text = plan_text(plan)
            self.does(Desk(text), "short", short(plan)[0])
            self.does(Desk(text), "spare", spare(plan))
            self.does(Desk(text), "joined", joined(plan)[0])


class Back(DeskCase):
    def test_nothing_left(self):
        desk = Desk(TEXT)
        self.refused(desk, "back", NothingLeft)
        desk.say("short")
        self.assertEqual(desk.say("back"), "ok")
        self.assertEqual(desk.say("plan"), TEXT)
        for _ in range(3):
            self.refused(desk, "back", NothingLeft)

    def test_the_last_deed_that_is_not_undone(self):
        desk, texts = Desk(TEXT), [TEXT]
        for row in ("short", "piece 1 stop", "past 5", "spare", "joined"):
            self.assertEqual(desk.say(row), "ok")
            texts.append(desk.say("plan"))
        for text in texts[-2::-1]:
            self.assertEqual(desk.say("back"), "ok")
            self.assertEqual(desk.say("plan"), text)
        self.refused(desk, "back", NothingLeft)

    def test_deeds_between(self):
        desk = Desk("stop")
        for row, text in (("piece 0 go 0", "go 0"), ("back", "stop"), ("piece 0 tell a; stop", "tell a; stop"),
                          ("piece 0 tell b; stop", "tell b; stop"), ("back", "tell a; stop"),
                          ("piece 0 tell c; stop", "tell c; stop"), ("back", "tell a; stop"), ("back", "stop")):
            self.assertEqual(desk.say(row), "ok")
            self.assertEqual(desk.say("plan"), text)
        self.refused(desk, "back", NothingLeft)

    def test_each_kind_of_deed_even_one_that_changes_nothing(self):
        for row in ("piece 0 stop", "past 1", "short", "spare", "joined"):
            desk = Desk("stop")
            self.assertEqual(desk.say(row), "ok")
            self.assertEqual(desk.say("plan"), "stop")
            self.assertEqual(desk.say("back"), "ok")
            self.refused(desk, "back", NothingLeft)

    def test_rows_that_are_no_deeds_are_not_undone(self):
        desk = Desk(TEXT)
        for row in ("plan", "needed", "heads", "live 0", "alike 0 1", "run 5 1"):
            desk.say(row)
            self.refused(desk, "back", NothingLeft)

    def test_what_is_refused_is_no_deed(self):
        desk = Desk(TEXT)
        for row, error, line in (("piece 9 stop", NoPiece, None), ("piece 1 halt", NoPlan, 1), ("past 0", NoRow, None), ("hm", NoRow, None)):
            self.refused(desk, row, error, line)
            self.refused(desk, "back", NothingLeft)

    def test_a_thousand_deeds_all_undone(self):
        desk, made, texts = Desk(TEXT), Made(109), [TEXT]
        for at in range(1000):
            count = len(texts[-1].split("\n"))
            row = f"piece {made.below(count)} tell a; put a {at}; go {made.below(count)}"
            if at % 97 == 5:
                row = made.one_of(("spare", "past 40", "joined", "short"))
            try:
                desk.say(row)
            except TooMany:
                desk.say("spare")
            texts.append(desk.say("plan"))
        for text in texts[-2::-1]:
            self.assertEqual(desk.say("back"), "ok")
            self.assertEqual(desk.say("plan"), text)
        self.refused(desk, "back", NothingLeft)


class Answers(DeskCase):
    def says(self, text, row, answer):
        desk = Desk(text)
        for _ in range(2):
            told = desk.say(row)
            self.assertEqual(told, answer, row)
            self.assertIs(told.__class__, str)
        self.assertEqual(desk.say("plan"), text)

    def test_needed(self):
        self.says(TEXT, "needed", str(needed(PLAN)))
        self.says("stop", "needed", "1")

    def test_heads(self):
        self.says(TEXT, "heads", "")
        self.says("go 0", "heads", "0")
        self.says("go 1\nless a 0 1 2\nless a 0 0 3\ngo 3", "heads", "0 1 3")

    def test_live(self):
        self.says(TEXT, "live 0", "")
        self.says(TEXT, "live 3", "a b")
        self.says(TEXT, "live 5", "a")
        self.says("tell b; tell ab; tell a; stop", "live 0", "a ab b")

    def test_alike(self):
        text = "less a 0 1 3\nless a 0 2 4\ngo 3\ngo 4\ntell a; stop\ntell b; stop\ntell a; stop"
        plan = read_plan(text)
        for one in range(7):
            for other in range(7):
                sides = parting(plan, one, other)
                told = "alike" if sides is None else " ".join(("apart",) + sides)
                self.says(text, f"alike {one} {other}", told)
        self.says(text, "alike 4 6", "alike")
        self.says(text, "alike 4 5", "apart")
        self.says(text, "alike 2 3", "apart go")
        self.says("less a 0 1 2\nless a 0 2 2\ngo 3\nstop", "alike 0 1", "apart yes")
        self.says("less a 0 2 1\nless a 0 2 2\ngo 3\nstop", "alike 0 1", "apart no")
        self.says("less a 0 1 1\nless a 0 2 2\nless a 0 3 3\nstop", "alike 0 1", "apart no no")

    def test_run(self):
        self.says(TEXT, "run 0", "on")
        self.says(TEXT, "run 0 5", "on")
        self.says(TEXT, "run 1", "dry")
        self.says(TEXT, "run 2000 5", "stop 2 5")
        self.says(TEXT, "run 2000 -5", "stop 1 -5")
        self.says(TEXT, "run 6 -5 3 3", "on 1")
        self.says("read a; tell a; go 0", "run 2000", "dry")
        self.says("read a; tell a; go 0", "run 2000 1 0 -1", "dry 1 0 -1")
        self.says("add a 1; tell a; go 0", "run 9", "on 1 2 3")

    def test_run_with_two_hundred_numbers(self):
        numbers = " ".join([str(number) for number in range(200)])
        self.says("read a; tell a; go 0", f"run 2000 {numbers}", f"dry {numbers}")
        self.no_row(f"run 2000 {numbers} 7", f"run 5 {numbers} {numbers}")

    def test_run_with_numbers_of_forty_figures(self):
        self.says(f"read a; add a {LONG}; tell a; stop", f"run 9 {LONG}", f"stop {2 * LONG}")
        self.says("read a; tell a; stop", f"run 9 -{LONG}", f"stop -{LONG}")
        self.no_row(f"run 9 {LONG + 1}", f"run 9 -{LONG + 1}")

    def test_made_plans(self):
        made = Made(113)
        for plan in made_plans(80, 6):
            text, numbers, steps = plan_text(plan), made.numbers(5), made.below(40)
            word, told = run(plan, numbers, steps)
            self.says(text, " ".join(["run", str(steps)] + [str(number) for number in numbers]),
                      " ".join([word] + [str(number) for number in told]))
            self.says(text, "heads", " ".join([str(at) for at in heads(plan)]))
            self.says(text, "needed", str(needed(plan)))
            for at, names in enumerate(live(plan)):
                self.says(text, f"live {at}", " ".join(names))


class Rows(DeskCase):
    def test_rows_that_are_none(self):
        self.no_row("", " ", "hm", "Plan", "PLAN", "plans", "pla", "plan 0", "plan ", " plan", "plan\n", "\nplan", "back 1", "back ",
                    "short 1", "spare 0", "joined 0", "needed 0", "heads 0", "heads ", "short  ", "undo", "ok", "stop", "go 0", "0",
                    "short\nshort", "-", "piece4 stop", "run5", "past1", "live0")

    def test_past(self):
        self.no_row("past", "past ", "past 0", "past 301", "past -1", "past 01", "past +1", "past 1 1", "past a", "past  1", "past 1 ",
                    "past -0", f"past {LONG}", "past " + "1" * 41, "past 1\n", "past1")
        for most in (1, 300):
            self.assertEqual(Desk(TEXT).say(f"past {most}"), "ok")

    def test_live_and_alike(self):
        self.no_row("live", "live ", "live a", "live -1", "live 00", "live 0 ", "live  0", "live 0 0", "live -0", "live " + "1" * 41,
                    "alike", "alike 0", "alike 0 ", "alike 0 0 0", "alike 0 -1", "alike -1 0", "alike a 0", "alike 0 a", "alike  0 0",
                    "alike 0  0", "alike 0 0 ", "alike 00 0", "alike 0 00", "alike 9 a", "alike a 9")

    def test_run(self):
        self.no_row("run", "run ", "run a", "run -1", "run 2001", "run 5 a", "run 5 ", "run  5", "run 5  1", "run 5 1 ", "run 5 01", "run 05",
                    "run 5 -0", "run 5 +1", f"run {LONG}", "run 5 1,2", "run 5\n1", "run 5 1 a 2", "run 5 1  2")
        for steps in (0, 2000):
            Desk(TEXT).say(f"run {steps}")

    def test_piece(self):
        self.no_row("piece", "piece ", "piece 0", "piece  0", "piece a stop", "piece -1 stop", "piece 00 stop", "piece  0 stop", "piece stop",
                    "piece stop ", "piece +1 stop", "piece -0 stop", "piece " + "1" * 41 + " stop", "piece 0\n stop", "piece 9", "piece")
        # What stands behind the blank behind P is the line, whatever it is.
        desk = Desk(TEXT)
        for line in ("", " ", " stop", "stop ", "stop\n", "\nstop", "halt", "go 6", "go -1", "tell a; " * 13 + "stop", "stop; stop",
                     "0 stop", "piece 0 stop", "tell a;stop", "put a " + "1" * 41 + "; stop", "stop\nstop"):
            for at in (0, 3, 5):
                self.refused(desk, f"piece {at} {line}", NoPlan, at)
        self.refused(desk, "back", NothingLeft)

    def test_no_piece_ahead_of_no_plan(self):
        desk = Desk(TEXT)
        for at in (6, 7, 400, LONG):
            for row in (f"piece {at} stop", f"piece {at} halt", f"piece {at} ", f"live {at}", f"alike {at} 0", f"alike 0 {at}",
                        f"alike {at} {at}"):
                self.refused(desk, row, NoPiece)

    def test_no_row_ahead_of_no_piece(self):
        desk = Desk(TEXT)
        for row in ("piece 9", "live 9 9", "live 9 ", "alike 9", "alike 9 -1", "alike 9 01", "alike 9 9 9", "piece 09 stop"):
            self.refused(desk, row, NoRow)

    def test_too_many(self):
        desk = Desk("\n".join(["stop"] * 61))
        for row in ("past 1", "past 300", "needed"):
            self.refused(desk, row, TooMany)
        for row in ("past 0", "past 301", "needed 1"):
            self.refused(desk, row, NoRow)
        self.assertEqual(desk.say("short"), "ok")
        self.assertEqual(desk.say("needed"), "1")
        self.assertEqual(desk.say("past 1"), "ok")
        self.assertEqual(Desk("\n".join(["stop"] * 60)).say("past 1"), "ok")

    def test_needed_of_more_than_three_hundred(self):
        desk = Desk(WIDE)
        self.refused(desk, "needed", TooMany)
        self.assertEqual(desk.say("past 300"), "ok")
        # The plan led past has too many pieces to be led past again.
        self.refused(desk, "past 300", TooMany)
        self.refused(desk, "needed", TooMany)
        self.assertEqual(desk.say("back"), "ok")
        self.assertEqual(desk.say("plan"), WIDE)

    def test_each_sign_at_each_place(self):
        """Beside a reading of rows by patterns."""
        plain = "|".join(["short", "spare", "joined", "back", "plan", "needed", "heads", f"(past|live) {NUMBER}",
                          f"alike {NUMBER} {NUMBER}", f"run {NUMBER}( {NUMBER}){{0,200}}", f"piece {NUMBER} [\n -~]*"])
        counts = {}
        for row in ("short", "spare", "joined", "plan", "needed", "heads", "past 12", "live 3", "alike 3 5", "run 20 -1 3",
                    "piece 3 put a -3; go 4", "back"):
            for at in range(len(row) + 1):
                spoilt = [row[:at] + sign + row[at + width:] for sign in SIGNS for width in (0, 1)] + [row[:at] + row[at + 1:]]
                for text in spoilt:
                    error, line = self.due(text) if re.fullmatch(plain, text) else (NoRow, None)
                    counts[error] = counts.get(error, 0) + 1
                    if error is None:
                        self.assertIs(Desk(TEXT).say(text).__class__, str)
                    else:
                        self.refused(Desk(TEXT), text, error, line)
        self.assertEqual(set(counts), {None, NoRow, NoPiece, NoPlan, NothingLeft})
        self.assertGreater(min(counts.values()), 0)

    def due(self, row):
        """The refusal that is due for a row of a right form, and its line, at a desk with the plan of TEXT."""
        word, *rest = row.split(" ")
        if word == "back":
            return NothingLeft, None
        numbers = [int(number) for number in (rest[:1] if word == "piece" else rest)]
        low, high = {"past": (1, 300), "run": (0, 2000)}.get(word, (0, LONG))
        if [number for number in numbers[:1 if word == "run" else None] if not low <= number <= high]:
            return NoRow, None
        if word in ("piece", "live", "alike") and max(numbers) > 5:
            return NoPiece, None
        if word == "piece" and plain_piece(" ".join(rest[1:]), 6) is None:
            return NoPlan, numbers[0]
        return None, None


class Apart(DeskCase):
    def test_two_desks(self):
        one, other = Desk(TEXT), Desk(TEXT)
        one.say("short")
        one.say("piece 0 stop")
        self.assertEqual(other.say("plan"), TEXT)
        self.refused(other, "back", NothingLeft)
        other.say("spare")
        self.assertEqual(one.say("back"), "ok")
        self.assertEqual(one.say("plan"), plan_text(short(PLAN)[0]))
        self.assertEqual(other.say("plan"), plan_text(spare(PLAN)))


if __name__ == "__main__":
    unittest.main()
