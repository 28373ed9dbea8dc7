"""The desk: a plan that is told rows, and answers each with a text."""

from ledpast.alike import joined, parting
from ledpast.errors import NoPiece, NoRow, NothingLeft
from ledpast.led import led_past, needed
from ledpast.live import live, spare
from ledpast.plans import heads, with_piece
from ledpast.runs import run
from ledpast.short import short
from ledpast.stretches import lies_in
from ledpast.texts import in_a_row, plan_text, read_number, read_piece, read_plan

# The stretches of the numbers that stand behind each word.
ROWS = {
    "piece": ((0, None),),
    "past": ((1, 300),),
    "short": (),
    "spare": (),
    "joined": (),
    "back": (),
    "plan": (),
    "needed": (),
    "heads": (),
    "live": ((0, None),),
    "alike": ((0, None), (0, None)),
    "run": ((0, 2000),),
}
DEEDS = ("piece", "past", "short", "spare", "joined")
MOST_NUMBERS = 200


def is_row(word, numbers):
    """Whether the numbers are such as stand behind the word."""
    stretches = ROWS.get(word)
    if stretches is None or None in numbers:
        return False
    more = len(numbers) - len(stretches)
    if not 0 <= more <= (MOST_NUMBERS if word == "run" else 0):
        return False
    return all([lies_in(number, stretch) for number, stretch in zip(numbers, stretches)])


def read_row(row):
    """The row's word, its numbers, and the line behind them, which is None but of piece."""
    words = row.split(" ")
    line = None
    if words[0] == "piece" and len(words) > 2:
        line = " ".join(words[2:])
        words = words[:2]
    numbers = [read_number(word) for word in words[1:]]
    if not is_row(words[0], numbers) or (words[0] == "piece" and line is None):
        raise NoRow("there is no such row")
    return (words[0], numbers, line)


def changed(plan, word, numbers, line):
    """The plan that a deed puts in the plan's place."""
    if word == "piece":
        return with_piece(plan, numbers[0], read_piece(line, len(plan), numbers[0]))
    if word == "past":
        return led_past(plan, numbers[0])[0]
    if word == "short":
        return short(plan)[0]
    if word == "spare":
        return spare(plan)
    return joined(plan)[0]


def parting_text(sides):
    return "alike" if sides is None else in_a_row(("apart",) + sides)


def run_text(plan, steps, numbers):
    word, told = run(plan, numbers, steps)
    return in_a_row((word,) + told)


def answered(plan, word, numbers):
    """What is answered to a row that is no deed."""
    if word == "plan":
        return plan_text(plan)
    if word == "needed":
        return str(needed(plan))
    if word == "heads":
        return in_a_row(heads(plan))
    if word == "live":
        return in_a_row(live(plan)[numbers[0]])
    if word == "alike":
        return parting_text(parting(plan, numbers[0], numbers[1]))
    return run_text(plan, numbers[0], tuple(numbers[1:]))


class Desk:
    """A desk that keeps a plan, and those ahead of its deeds that are not undone."""

    def __init__(self, text):
        self.plans = [read_plan(text)]

    def undo(self):
        if len(self.plans) == 1:
            raise NothingLeft("no deed is left to undo")
        self.plans.pop()

    def say(self, row):
        """Does what the row says, and tells the answer."""
        word, numbers, line = read_row(row)
        plan = self.plans[-1]
        if word in ("piece", "live", "alike") and max(numbers) >= len(plan):
            raise NoPiece(f"the plan has {len(plan)} pieces")
        if word in DEEDS:
            self.plans.append(changed(plan, word, numbers, line))
            return "ok"
        if word == "back":
            self.undo()
            return "ok"
        return answered(plan, word, numbers)
