"""Short plans: idle pieces are left out."""

from ledpast.plans import with_steads


def is_idle(piece):
    deeds, end = piece
    return len(deeds) == 0 and end[0] == "go"


def followed(plan, at):
    """The first piece that is not idle, go by go from this one on, or the least one of their round."""
    passed = []
    found = set()
    while is_idle(plan[at]):
        if at in found:
            # What lies ahead of the round is no part of it.
            return min(passed[passed.index(at):])
        found.add(at)
        passed.append(at)
        at = plan[at][1][1]
    return at


def short(plan):
    """The short plan, and the tuple of its pieces' numbers in the plan."""
    return with_steads(plan, [followed(plan, at) for at in range(len(plan))])
