"""Plans led past: where a way to a test knows its answer, it goes past the test."""

from ledpast.errors import TooMany
from ledpast.facts import behind, leads, start
from ledpast.plans import Row, heads, without_ways

MOST_TO_LEAD = 60
MOST_NEEDED = 300


def copy_for(lead, tops, places, most):
    """The copy to which a lead comes, by the places of the copies that are there already."""
    piece = lead[0]
    # Nothing is known at a head, so each round comes back to the one copy of it.
    if piece in tops:
        return (piece, ())
    if lead in places or len(places) < most:
        return lead
    return (piece, ())


def end_to(end, ways):
    """The end with these ways on: go where there is one alone."""
    if len(ways) == 1:
        return ("go", ways[0])
    return without_ways(end) + tuple(ways)


def led_past(plan, most):
    """The plan led past by the bound, and the tuple of its copies."""
    if len(plan) > MOST_TO_LEAD:
        raise TooMany(f"a plan of {len(plan)} pieces is not led past")
    tops = heads(plan)
    copies = Row((0, () if 0 in tops else start(plan)))
    pieces = []
    while len(pieces) < len(copies.members):
        piece, facts = copies.members[len(pieces)]
        deeds, end = plan[piece]
        ahead = leads(behind(facts, deeds), end)
        ways = [copies.place_of(copy_for(lead, tops, copies.places, most)) for lead in ahead]
        pieces.append((deeds, end_to(end, ways)))
    return (tuple(pieces), tuple(copies.members))


def needed(plan):
    """How many copies would come up without a bound."""
    # One more than may be needed: up to there this bound holds no copy back.
    many = len(led_past(plan, MOST_NEEDED + 1)[1])
    if many > MOST_NEEDED:
        raise TooMany(f"more than {MOST_NEEDED} copies would be needed")
    return many
