"""Texts: plans, pieces and numbers, written and read."""

from ledpast.errors import NoPlan, TooMany
from ledpast.plans import MOST_PIECES, is_piece

MOST_FIGURES = 40


def in_a_row(things):
    """Numbers and texts, a blank between each two."""
    return " ".join([str(thing) for thing in things])


def piece_text(piece):
    """The line that writes the piece."""
    deeds, end = piece
    return "; ".join([in_a_row(step) for step in deeds + (end,)])


def plan_text(plan):
    """The text that writes the plan."""
    return "\n".join([piece_text(piece) for piece in plan])


def read_number(text):
    """The whole number that the text writes, or None."""
    figures = text[1:] if text.startswith("-") else text
    if not 1 <= len(figures) <= MOST_FIGURES:
        return None
    if not all(["0" <= sign <= "9" for sign in figures]):
        return None
    if figures[0] == "0" and text != "0":
        return None
    return int(text)


def read_word(word):
    number = read_number(word)
    return word if number is None else number


def read_step(text):
    """The words of a deed or an end, those that write numbers as such."""
    words = text.split(" ")
    return (words[0],) + tuple([read_word(word) for word in words[1:]])


def read_piece(line, count, at):
    """The piece that the line writes in a plan of so many pieces."""
    steps = [read_step(text) for text in line.split("; ")]
    piece = (tuple(steps[:-1]), steps[-1])
    # No word writes both a name and a number, so what is a piece now was written as one.
    if not is_piece(piece, count):
        raise NoPlan(at)
    return piece


def read_plan(text):
    """The plan that the text writes."""
    lines = text.split("\n")
    if len(lines) > MOST_PIECES:
        raise TooMany(f"a plan has no {len(lines)} lines")
    return tuple([read_piece(line, len(lines), at) for at, line in enumerate(lines)])
