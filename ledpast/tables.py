"""Tables: what holds wherever one is in a plan."""

from ledpast.facts import ALL, behind, covers, facts_of, holds, leads, start
from ledpast.stretches import is_within


def is_met(lead, table):
    """Whether the entry of the lead's piece is facts that cover the lead's."""
    entry = table[lead[0]]
    return entry is not None and covers(entry, lead[1])


def leads_from(entry, piece):
    """The leads of the piece's end, where the entry's facts hold ahead of its deeds."""
    deeds, end = piece
    return leads(behind(entry, deeds), end)


def entry_stands(entry, piece, table):
    return entry is None or all([is_met(lead, table) for lead in leads_from(entry, piece)])


def stands(plan, table):
    """Whether the tuple is a table of the plan that stands."""
    if len(table) != len(plan):
        return False
    if table[0] is None or not holds(table[0], {}):
        return False
    return all([entry_stands(entry, piece, table) for entry, piece in zip(table, plan)])


def opened(stretch, other):
    """The stretch with each end opened beyond which the other goes."""
    low, high = stretch
    return (low if is_within(other, (low, None)) else None, high if is_within(other, (None, high)) else None)


def widened(entry, facts):
    """The entry that is to cover these facts too; None is no entry yet."""
    if entry is None:
        return facts
    stretches = dict(facts)
    return facts_of({name: opened(stretch, stretches.get(name, ALL)) for name, stretch in entry})


def table_of(plan):
    """The table that is made from the plan's start on, the least piece that waits first."""
    table = [None] * len(plan)
    waits = [False] * len(plan)
    table[0] = start(plan)
    waits[0] = True
    while True in waits:
        at = waits.index(True)
        waits[at] = False
        for lead in leads_from(table[at], plan[at]):
            if not is_met(lead, table):
                way = lead[0]
                table[way] = widened(table[way], lead[1])
                waits[way] = True
    return tuple(table)
