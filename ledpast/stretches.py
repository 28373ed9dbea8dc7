"""Stretches of whole numbers, and what a test tells of them."""

from ledpast.kinds import is_whole


def is_bound(thing):
    return thing is None or is_whole(thing)


def is_stretch(thing):
    """Whether anything is a stretch (low, high)."""
    if not isinstance(thing, tuple) or len(thing) != 2:
        return False
    low, high = thing
    if not is_bound(low) or not is_bound(high):
        return False
    return low is None or high is None or low <= high


def lies_in(number, stretch):
    """Whether the stretch has the number."""
    low, high = stretch
    return (low is None or low <= number) and (high is None or number <= high)


def is_within(one, other):
    """Whether the other has all numbers of the one."""
    low, high = other
    low_fits = low is None or (one[0] is not None and low <= one[0])
    high_fits = high is None or (one[1] is not None and one[1] <= high)
    return low_fits and high_fits


def part_below(stretch, number):
    low, high = stretch
    top = number - 1 if high is None else min(high, number - 1)
    if low is not None and low > top:
        return None
    return (low, top)


def part_from(stretch, number):
    low, high = stretch
    bottom = number if low is None else max(low, number)
    if high is not None and bottom > high:
        return None
    return (bottom, high)


def part_at(stretch, number):
    if lies_in(number, stretch):
        return (number, number)
    return None


def part_beside(stretch, number):
    low, high = stretch
    if low == number and high == number:
        return None
    if low == number:
        return (number + 1, high)
    if high == number:
        return (low, number - 1)
    # A number that is lost within leaves both ends where they were.
    return (low, high)


def part_of(stretch, word, number, side):
    """The least stretch with all numbers of this one that the test answers by the side, or None."""
    if word == "less":
        return part_below(stretch, number) if side else part_from(stretch, number)
    return part_at(stretch, number) if side else part_beside(stretch, number)


def answer_of(stretch, word, number):
    """What the test answers for all numbers of the stretch: yes, no, or open."""
    if part_of(stretch, word, number, False) is None:
        return "yes"
    if part_of(stretch, word, number, True) is None:
        return "no"
    return "open"
