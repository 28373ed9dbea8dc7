"""Keepers: they mend a plan led past, and its paper, as pieces are exchanged."""

from ledpast.errors import NoPiece
from ledpast.facts import behind, leads
from ledpast.led import end_to, led_past
from ledpast.papers import meets
from ledpast.plans import with_piece


def first_met(lead, copies):
    """The number of the first copy that meets the lead, or None."""
    for at, one in enumerate(copies):
        if meets(one, lead):
            return at
    return None


def piece_for(facts, piece, copies):
    """The piece for a copy with these facts, by copies that are there, or None where they don't suffice."""
    deeds, end = piece
    ways = [first_met(lead, copies) for lead in leads(behind(facts, deeds), end)]
    if None in ways:
        return None
    return (deeds, end_to(end, ways))


class Keeper:
    """A plan, and another one with a paper for both."""

    def __init__(self, plan, most):
        self.kept = plan
        self.bound = most
        self.past, self.copies = led_past(plan, most)
        self.times = 1

    def make_anew(self):
        self.past, self.copies = led_past(self.kept, self.bound)
        self.times += 1

    def mend(self, places, pieces):
        """Puts the pieces in these places of the other plan."""
        others = list(self.past)
        for at, piece in zip(places, pieces):
            others[at] = piece
        self.past = tuple(others)

    def exchange(self, place, piece):
        """Puts another piece in the place; tells which pieces of the other plan were mended, None where all are new."""
        if not 0 <= place < len(self.kept):
            raise NoPiece(f"there is no piece {place}")
        self.kept = with_piece(self.kept, place, piece)
        places = [at for at, one in enumerate(self.copies) if one[0] == place]
        pieces = [piece_for(self.copies[at][1], piece, self.copies) for at in places]
        if None in pieces:
            self.make_anew()
            return None
        self.mend(places, pieces)
        return tuple(places)

    def plan(self):
        """The plan as it is now."""
        return self.kept

    def other(self):
        """The other plan."""
        return self.past

    def paper(self):
        """The copies, a paper for both."""
        return self.copies

    def made(self):
        """How often the other plan and the paper were made, the first time too."""
        return self.times
