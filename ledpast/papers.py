"""Papers: whether copies show that two plans tell the same."""

from ledpast.facts import behind, covers, holds, known_beyond, leads
from ledpast.plans import ways_on, without_ways


def meets(one, lead):
    """Whether the copy is one of the lead's piece, with facts that cover the lead's."""
    return one[0] == lead[0] and covers(one[1], lead[1])


def same_end_holds(facts, end, other_end, paper):
    """Whether each lead is met, for two ends that are the same but for their ways on."""
    for way, there, at in zip(ways_on(end), known_beyond(facts, end), ways_on(other_end)):
        if there is not None and not meets(paper[at], (way, there)):
            return False
    return True


def end_holds(facts, end, other_end, paper):
    if without_ways(end) == without_ways(other_end):
        return same_end_holds(facts, end, other_end, paper)
    ahead = leads(facts, end)
    # The ends are unlike, so one lead alone that meets a go is that of a test led past.
    return other_end[0] == "go" and len(ahead) == 1 and meets(paper[other_end[1]], ahead[0])


def piece_holds(one, piece, other_piece, paper):
    """Whether the other plan's piece does what the copy's piece does by the copy's facts."""
    deeds, end = piece
    other_deeds, other_end = other_piece
    return deeds == other_deeds and end_holds(behind(one[1], deeds), end, other_end, paper)


def paper_holds(plan, other, paper):
    """Whether the paper is let by for the plan and the other one."""
    if len(paper) != len(other):
        return False
    if not all([0 <= one[0] < len(plan) for one in paper]):
        return False
    if paper[0][0] != 0 or not holds(paper[0][1], {}):
        return False
    return all([piece_holds(one, plan[one[0]], piece, paper) for one, piece in zip(paper, other)])
