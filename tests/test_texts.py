"""Point 34: texts of numbers, pieces and plans."""

import unittest

from ledpast.errors import NoPlan, PlanError, TooMany
from ledpast.plans import is_plan
from ledpast.texts import piece_text, plan_text, read_number, read_piece, read_plan
from made import Made, made_plans
from worked import plain_piece, plain_plan

LONG = 10 ** 40 - 1
STOP = ("stop",)
TELL = ("tell", "a")
SIGNS = [chr(code) for code in range(32, 127) if chr(code) != "%"] + ["\n"]
TEXT = "put a 3; add b -1; less a 5 2 0\ncopy a bcdefghi; read zz; go 2\ntell a; is zz 0 0 1"
PLAN = (
    ((("put", "a", 3), ("add", "b", -1)), ("less", "a", 5, 2, 0)),
    ((("copy", "a", "bcdefghi"), ("read", "zz")), ("go", 2)),
    ((TELL,), ("is", "zz", 0, 0, 1)),
)


class Numbers(unittest.TestCase):
    def reads(self, text, number):
        told = read_number(text)
        self.assertEqual(told, number, text)
        self.assertIs(told.__class__, int)

    def refuses(self, text):
        self.assertIsNone(read_number(text), text)

    def test_ordinary_ones(self):
        for number in (0, 1, 9, 10, 19, 90, 100, 1234567890, -1, -9, -10, -987654321):
            self.reads(str(number), number)

    def test_forty_figures_and_forty_one(self):
        for text in ("9" * 40, "1" + "0" * 39, "1234567890" * 4):
            self.reads(text, int(text))
            self.reads("-" + text, -int(text))
            for sign in "0123456789":
                self.refuses(text + sign)
                self.refuses("-" + text + sign)
        self.refuses("1" * 41)
        self.refuses("-" + "1" * 41)
        self.refuses("1" * 5000)
        self.refuses("9" * 30000)

    def test_noughts_ahead(self):
        for text in ("00", "01", "007", "-00", "-01", "-007", "0" * 40, "0" * 39 + "1"):
            self.refuses(text)

    def test_nought_below_nought(self):
        self.refuses("-0")
        self.reads("0", 0)

    def test_no_figures(self):
        for text in ("", "-", "--", "---", "+", "a", "-a", " ", "\n"):
            self.refuses(text)

    def test_other_signs_beside_figures(self):
        for text in ("+5", "--5", "5-", "5-5", " 5", "5 ", "\n5", "5\n", "- 5", "1_000", "1,000", "1.0", "5e3", "0x5", "5a", "a5",
                     "1 2", "5;", "-5-", "~5", "_1", "1_", "0b1", "0o7"):
            self.refuses(text)

    def test_each_sign_at_each_place(self):
        for sign in SIGNS:
            for text in (sign, sign + "5", "5" + sign, "-" + sign, "-5" + sign, "4" + sign + "5", sign + "-5"):
                good = text in [str(number) for number in range(-99, 1000)]
                if good:
                    self.reads(text, int(text))
                else:
                    self.refuses(text)


class Pieces(unittest.TestCase):
    def both(self, line, piece, count=400):
        self.assertEqual(piece_text(piece), line)
        self.assertEqual(read_piece(line, count, 7), piece)

    def refuses(self, line, count=400):
        for at in (0, 7, 399):
            with self.assertRaises(NoPlan) as caught:
                read_piece(line, count, at)
            self.assertEqual(caught.exception.line, at, line)
            self.assertIsInstance(caught.exception, PlanError)

    def test_ends(self):
        self.both("stop", ((), STOP))
        self.both("go 0", ((), ("go", 0)), 1)
        self.both("go 399", ((), ("go", 399)))
        self.both("less a 5 2 0", ((), ("less", "a", 5, 2, 0)), 3)
        self.both("is abcdefgh -12 0 0", ((), ("is", "abcdefgh", -12, 0, 0)), 1)

    def test_deeds(self):
        self.both("put a 3; stop", (((("put", "a", 3),), STOP)))
        self.both("copy a b; stop", (((("copy", "a", "b"),), STOP)))
        self.both("add zz -10; stop", (((("add", "zz", -10),), STOP)))
        self.both("read stop; stop", (((("read", "stop"),), STOP)))
        self.both("tell go; go 1", (((("tell", "go"),), ("go", 1))))
        self.both("put a 3; add b -1; less a 5 2 0", ((("put", "a", 3), ("add", "b", -1)), ("less", "a", 5, 2, 0)))

    def test_names_like_words(self):
        self.both("put put 0; copy copy less; is is 1 2 0", ((("put", "put", 0), ("copy", "copy", "less")), ("is", "is", 1, 2, 0)))

    def test_twelve_deeds_and_thirteen(self):
        self.both("tell a; " * 12 + "stop", ((TELL,) * 12, STOP))
        self.refuses("tell a; " * 13 + "stop")
        self.refuses("tell a; " * 400 + "stop")

    def test_numbers_of_forty_figures_and_forty_one(self):
        for number in (LONG, -LONG):
            self.both(f"put a {number}; add b {number}; is c {number} 0 1",
                      ((("put", "a", number), ("add", "b", number)), ("is", "c", number, 0, 1)))
        for text in ("put a {}; stop", "add a {}; stop", "less a {} 0 0", "is a {} 0 0", "go {}", "less a 0 {} 0", "less a 0 0 {}"):
            for number in ("1" * 41, "-" + "1" * 41, "00", "-0", "01", "-", "", "a", "+1", "1.0", "0x1"):
                self.refuses(text.format(number))

    def test_names(self):
        for text in ("put {} 1; stop", "copy {} a; stop", "copy a {}; stop", "add {} 1; stop", "read {}; stop", "tell {}; stop",
                     "less {} 0 0 0", "is {} 0 0 0"):
            for name in ("a", "z", "abcdefgh", "zzzzzzzz"):
                self.assertEqual(piece_text(read_piece(text.format(name), 1, 0)), text.format(name))
            for name in ("", "abcdefghi", "A", "aB", "a1", "1", "-1", "a_b", "a-b", "a b", "a;", "a\n", "\na", " a"):
                self.refuses(text.format(name))

    def test_p_below_the_count(self):
        for count in (1, 2, 60, 400):
            for text in ("go {}", "less a 0 {} 0", "less a 0 0 {}", "is a 0 {} 0", "is a 0 0 {}"):
                line = text.format(count - 1)
                self.assertEqual(piece_text(read_piece(line, count, 3)), line)
                for way in (count, count + 1, -1, -count, LONG, -LONG):
                    self.refuses(text.format(way), count)

    def test_words(self):
        for line in ("", " ", "halt", "Stop", "STOP", "stop.", "stopp", "sto", "goto 1", "put", "put a", "put a 1", "tell a", "read a",
                     "put a 1 2; stop", "put a b; stop", "put 1 a; stop", "copy a 1; stop", "copy a; stop", "add a; stop",
                     "read; stop", "read a b; stop", "read 1; stop", "tell a 1; stop", "go", "go a", "go 0 0", "stop 0", "less a 0 0",
                     "less a 0 0 0 0", "is a 0", "less 0 a 0 0", "less a b 0 0", "is a 0 b 0", "stop; stop", "go 0; stop",
                     "stop; tell a", "tell a; tell a", "0", "a", "-", "jump 0", "less a 0 0 0; stop", ";"):
            self.refuses(line)

    def test_blanks_and_line_feeds_too_many(self):
        line = "put a 3; add b -1; less a 5 2 0"
        self.both(line, ((("put", "a", 3), ("add", "b", -1)), ("less", "a", 5, 2, 0)))
        for at in range(len(line) + 1):
            self.refuses(line[:at] + "\n" + line[at:])
            self.refuses(line[:at] + " " + line[at:])
        for bad in ("put a 3;add b -1; stop", "put a 3 ; stop", "put a 3;  stop", "put a 3;; stop", "; stop", "put a 3; ; stop",
                    "put  a 3; stop", " stop", "stop ", "stop;", "stop; ", "put a 3,stop", "put a 3\nstop", "put\na 3; stop",
                    "go  0", "go 0 ", "go 0\n", "\nstop", "less a 5  2 0"):
            self.refuses(bad)

    def test_each_sign_at_each_place(self):
        line = "copy a b; put a 10; is b -7 2 0"
        told = {True: 0, False: 0}
        for at in range(len(line) + 1):
            spoilt = [line[:at] + sign + line[at + width:] for sign in SIGNS for width in (0, 1)] + [line[:at] + line[at + 1:]]
            for text in spoilt:
                piece = plain_piece(text, 5)
                told[piece is not None] += 1
                if piece is None:
                    self.refuses(text, 5)
                else:
                    self.assertEqual(read_piece(text, 5, 0), piece, text)
                    self.assertEqual(piece_text(piece), text)
        self.assertGreater(min(told.values()), 100)


class Plans(unittest.TestCase):
    def refuses(self, text, line):
        with self.assertRaises(NoPlan) as caught:
            read_plan(text)
        self.assertEqual(caught.exception.line, line, text)

    def too_many(self, text):
        with self.assertRaises(TooMany):
            read_plan(text)

    def test_an_ordinary_one(self):
        self.assertEqual(plan_text(PLAN), TEXT)
        self.assertEqual(read_plan(TEXT), PLAN)
        self.assertEqual(read_plan("stop"), (((), STOP),))
        self.assertEqual(plan_text((((), STOP),)), "stop")

    def test_what_is_written_is_read_to_the_same_plan(self):
        for plan in made_plans(300, 12):
            self.assertEqual(read_plan(plan_text(plan)), plan)
            self.assertEqual(plan_text(read_plan(plan_text(plan))), plan_text(plan))
            self.assertEqual("\n".join([piece_text(piece) for piece in plan]), plan_text(plan))

    def test_four_hundred_lines_and_four_hundred_and_one(self):
        text = "\n".join([f"go {at}" for at in range(400)])
        plan = tuple([((), ("go", at)) for at in range(400)])
        self.assertEqual(read_plan(text), plan)
        self.assertEqual(plan_text(plan), text)
        self.too_many(text + "\nstop")
        self.too_many(text + "\n")
        self.too_many("\n" + text)
        self.too_many("\n".join(["stop"] * 401))
        self.too_many("\n".join(["stop"] * 1000))

    def test_too_many_lines_ahead_of_lines_that_write_no_piece(self):
        self.too_many("\n" * 400)
        self.too_many("\n" * 30000)
        self.too_many("halt\n" + "\n".join(["stop"] * 400))
        self.refuses("\n" * 399, 0)
        self.refuses("stop\n" * 399, 399)

    def test_the_first_line_that_writes_no_piece(self):
        self.refuses("", 0)
        self.refuses("\n", 0)
        self.refuses("halt", 0)
        self.refuses("stop\nhalt", 1)
        self.refuses("stop\nhalt\nhalt\nstop", 1)
        self.refuses("stop\n", 1)
        self.refuses("\nstop", 0)
        self.refuses("stop\n\nstop", 1)
        self.refuses("stop\n\n", 1)
        self.refuses("\n".join(["stop"] * 399 + ["halt"]), 399)
        self.refuses("\n".join(["stop"] * 7 + ["tell a; " * 13 + "stop"] + ["stop"] * 5 + ["halt"]), 7)

    def test_a_p_that_is_not_below_the_count_of_lines(self):
        self.refuses("go 1", 0)
        self.refuses("go 1\ngo 2", 1)
        self.refuses("less a 0 0 3\nstop\ngo 4", 0)
        self.refuses("stop\nis a 0 2 0", 1)
        self.assertEqual(read_plan("go 1\ngo 0"), (((), ("go", 1)), ((), ("go", 0))))
        self.refuses("\n".join(["go 399"] * 399), 0)

    def test_other_line_ends(self):
        for text in ("stop\r\nstop", "stop\rstop", "stop\tstop", "stop\x0bstop", "stop\x0cstop", "stop\x85stop", "stop\u2028stop"):
            self.refuses(text, 0)

    def test_figures_and_letters_of_other_scripts(self):
        for text in ("put a \u0663; stop", "put \u00e9 1; stop", "go \u0660", "put a \uff11; stop", "tell \u00aa; stop"):
            self.refuses(text, 0)

    def test_each_sign_at_each_place(self):
        made, told = Made(107), {"NoPlan": 0, "plan": 0}
        for at in range(len(TEXT) + 1):
            for sign in SIGNS:
                text = TEXT[:at] + sign + TEXT[at + made.below(2):]
                plan = plain_plan(text)
                if plan[0] == "NoPlan":
                    told["NoPlan"] += 1
                    self.refuses(text, plan[1])
                else:
                    told["plan"] += 1
                    self.assertEqual(read_plan(text), plan)
                    self.assertEqual(plan_text(plan), text)
        self.assertGreater(min(told.values()), 100)

    def test_a_long_text(self):
        line = "tell abcdefgh; " * 12 + "stop"
        text = "\n".join([line] * 160)
        self.assertGreater(len(text), 29000)
        self.assertEqual(plan_text(read_plan(text)), text)

    def test_plans_of_long_lines(self):
        deeds = tuple([("put", "abcdefgh", -LONG)] * 12)
        plan = ((deeds, ("less", "abcdefgh", -LONG, 399, 399)),) * 400
        self.assertEqual(read_plan(plan_text(plan)), plan)

    def test_told_are_plans(self):
        told = read_plan(TEXT)
        self.assertTrue(is_plan(told))
        self.assertEqual([read_plan(TEXT), plan_text(PLAN)], [told, TEXT])
        self.assertIs(plan_text(PLAN).__class__, str)


if __name__ == "__main__":
    unittest.main()
