"""Plans: what is one, its names, and the ways through it."""

from ledpast.kinds import is_name, is_whole

MOST_PIECES = 400
MOST_DEEDS = 12

# What stands behind each word of a deed or an end, in order.
DEED_PARTS = {
    "put": ("name", "number"),
    "copy": ("name", "name"),
    "add": ("name", "number"),
    "read": ("name",),
    "tell": ("name",),
}
END_PARTS = {
    "stop": (),
    "go": ("piece",),
    "less": ("name", "number", "piece", "piece"),
    "is": ("name", "number", "piece", "piece"),
}


def is_part(thing, kind, count):
    if kind == "name":
        return is_name(thing)
    if kind == "number":
        return is_whole(thing)
    return is_whole(thing) and 0 <= thing < count


def first_word(thing):
    # Only a text may be looked up: other things may not be fit for a key.
    if isinstance(thing, tuple) and len(thing) > 0 and isinstance(thing[0], str):
        return thing[0]
    return None


def has_parts(thing, kinds, count):
    if kinds is None or len(thing) != len(kinds) + 1:
        return False
    return all([is_part(part, kind, count) for part, kind in zip(thing[1:], kinds)])


def is_deed(thing):
    return has_parts(thing, DEED_PARTS.get(first_word(thing)), 0)


def is_end(thing, count):
    """Whether anything is an end in a plan of so many pieces."""
    return has_parts(thing, END_PARTS.get(first_word(thing)), count)


def is_piece(thing, count):
    """Whether anything is a piece of a plan of so many."""
    if not isinstance(thing, tuple) or len(thing) != 2:
        return False
    deeds, end = thing
    if not isinstance(deeds, tuple) or len(deeds) > MOST_DEEDS:
        return False
    return all([is_deed(deed) for deed in deeds]) and is_end(end, count)


def is_plan(thing):
    """Whether anything is a plan."""
    if not isinstance(thing, tuple) or not 1 <= len(thing) <= MOST_PIECES:
        return False
    return all([is_piece(piece, len(thing)) for piece in thing])


def parts_of_kind(thing, kinds, wanted):
    return [part for part, kind in zip(thing[1:], kinds) if kind == wanted]


def names_of(plan):
    """The names in the plan's deeds and tests, rising, each once."""
    names = []
    for deeds, end in plan:
        for deed in deeds:
            names.extend(parts_of_kind(deed, DEED_PARTS[deed[0]], "name"))
        names.extend(parts_of_kind(end, END_PARTS[end[0]], "name"))
    return tuple(sorted(set(names)))


def ways_on(end):
    """The pieces to which the end may lead, that of yes ahead of that of no."""
    return tuple(parts_of_kind(end, END_PARTS[end[0]], "piece"))


def without_ways(end):
    """What the end is but for the pieces to which it leads."""
    return end[:len(end) - len(ways_on(end))]


def with_piece(plan, place, piece):
    """The plan with another piece at the place."""
    return plan[:place] + (piece,) + plan[place + 1:]


class Row:
    """Things that are numbered from 0 in the order in which they come up."""

    def __init__(self, first):
        self.members = [first]
        self.places = {first: 0}

    def place_of(self, thing):
        """The thing's number; what is not there yet comes up as the last one."""
        if thing not in self.places:
            self.places[thing] = len(self.members)
            self.members.append(thing)
        return self.places[thing]


def with_steads(plan, steads):
    """The plan with another piece in each one's stead, as they come up from 0 on, and their numbers in the plan."""
    row = Row(steads[0])
    pieces = []
    while len(pieces) < len(row.members):
        deeds, end = plan[row.members[len(pieces)]]
        ways = [row.place_of(steads[way]) for way in ways_on(end)]
        pieces.append((deeds, without_ways(end) + tuple(ways)))
    return (tuple(pieces), tuple(row.members))


def reached(plan):
    """The pieces to which ways on lead from piece 0, rising."""
    found = {0}
    waiting = [0]
    while waiting:
        at = waiting.pop()
        for way in ways_on(plan[at][1]):
            if way not in found:
                found.add(way)
                waiting.append(way)
    return tuple(sorted(found))


def heads(plan):
    """The reached pieces to which a reached piece whose number is no less leads, rising."""
    found = set()
    for at in reached(plan):
        for way in ways_on(plan[at][1]):
            if way <= at:
                found.add(way)
    return tuple(sorted(found))
