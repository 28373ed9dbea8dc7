"""Facts: what is known of the names' worths, and how it comes through deeds and ends."""

from ledpast.plans import names_of, ways_on
from ledpast.stretches import is_within, lies_in, part_of

ALL = (None, None)


def facts_of(stretches):
    """The facts that a dict from names to stretches tells."""
    return tuple([(name, stretches[name]) for name in sorted(stretches) if stretches[name] != ALL])


def known(facts, name):
    """The stretch of the name by the facts."""
    return dict(facts).get(name, ALL)


def with_known(facts, name, stretch):
    """Facts that tell this stretch of the name, all else as it was."""
    stretches = dict(facts)
    stretches[name] = stretch
    return facts_of(stretches)


def holds(facts, worths):
    """Whether each worth lies in its name's stretch; a name that the worths lack is worth 0."""
    return all([lies_in(worths.get(name, 0), stretch) for name, stretch in facts])


def covers(facts, others):
    """Whether each name's stretch by the facts has all numbers of its stretch by the others."""
    stretches = dict(others)
    return all([is_within(stretches.get(name, ALL), stretch) for name, stretch in facts])


def moved(stretch, number):
    low, high = stretch
    return (None if low is None else low + number, None if high is None else high + number)


def stretch_behind(stretches, deed):
    """The stretch of the deed's name behind it."""
    word, name = deed[0], deed[1]
    if word == "put":
        return (deed[2], deed[2])
    if word == "copy":
        return stretches.get(deed[2], ALL)
    if word == "add":
        return moved(stretches.get(name, ALL), deed[2])
    if word == "read":
        return ALL
    return stretches.get(name, ALL)


def behind(facts, deeds):
    """The facts behind the deeds, done one by one."""
    stretches = dict(facts)
    for deed in deeds:
        stretches[deed[1]] = stretch_behind(stretches, deed)
    return facts_of(stretches)


def known_beyond(facts, end):
    """For each way on of the end the facts there, or None where it is not taken."""
    ways = ways_on(end)
    if len(ways) < 2:
        return tuple([facts for way in ways])
    word, name, number = end[0], end[1], end[2]
    stretch = known(facts, name)
    parts = [part_of(stretch, word, number, side) for side in (True, False)]
    return tuple([None if part is None else with_known(facts, name, part) for part in parts])


def leads(facts, end):
    """The pieces to which the end may lead by the facts, each with the facts there."""
    beyond = known_beyond(facts, end)
    return tuple([(way, there) for way, there in zip(ways_on(end), beyond) if there is not None])


def start(plan):
    """The facts of the plan's start."""
    return tuple([(name, (0, 0)) for name in names_of(plan)])
