"""Alike pieces: which there are, what parts the others, and the plan that joins them."""

from ledpast.plans import Row, ways_on, with_steads, without_ways


def surface(piece):
    """What a piece is but for the pieces to which it leads."""
    deeds, end = piece
    return (deeds, without_ways(end))


def least_places(keys):
    """For each key the least place at which the same one stands."""
    places = {}
    for at, key in enumerate(keys):
        if key not in places:
            places[key] = at
    return [places[key] for key in keys]


def ways_of(plan):
    return [ways_on(end) for deeds, end in plan]


def surface_groups(plan):
    """For each piece the least number of all pieces of the same surface."""
    return least_places([surface(piece) for piece in plan])


def alike(plan):
    """For each piece the least number of all pieces that are alike to it."""
    ways = ways_of(plan)
    before = []
    groups = surface_groups(plan)
    # Groups are only ever parted further, so all is done once nothing was parted.
    while groups != before:
        before = groups
        groups = least_places([(before[at], tuple([before[way] for way in row])) for at, row in enumerate(ways)])
    return tuple(groups)


def pairs_behind(first, second):
    """By the ways on of two pieces of one surface each side, the least one first, and the pair to which it leads."""
    if len(first) < 2:
        return [("go", pair) for pair in zip(first, second)]
    # As texts, no is less than yes.
    return [("no", (first[1], second[1])), ("yes", (first[0], second[0]))]


def sides_to(came, at):
    """The sides by which one came to the pair at the place."""
    sides = []
    while came[at] is not None:
        at, side = came[at]
        sides.append(side)
    return tuple(sides[::-1])


def parting(plan, one, other):
    """The fewest and least sides that lead to two pieces of unlike surface, or None."""
    groups = surface_groups(plan)
    ways = ways_of(plan)
    pairs = Row((one, other))
    # For each pair the place of the one ahead of it and the side between them.
    came = [None]
    at = 0
    while at < len(pairs.members):
        first, second = pairs.members[at]
        if groups[first] != groups[second]:
            return sides_to(came, at)
        for side, pair in pairs_behind(ways[first], ways[second]):
            if pair not in pairs.places:
                pairs.place_of(pair)
                came.append((at, side))
        at += 1
    return None


def joined(plan):
    """The joined plan, and for each piece of the plan the number in it, or None."""
    steads = alike(plan)
    pieces, order = with_steads(plan, steads)
    places = {stead: place for place, stead in enumerate(order)}
    return (pieces, tuple([places.get(stead) for stead in steads]))
