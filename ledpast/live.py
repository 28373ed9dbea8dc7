"""Live names: whose worth is still asked for, and the deeds that nobody asks for."""

from ledpast.plans import ways_on


def asked_by(end):
    """The name that the end's test asks for, in a list, empty where there is no test."""
    return [end[1]] if end[0] in ("less", "is") else []


def traced(piece):
    """Of names behind the deeds, the name ahead of them whose worth is in it, None where none is;
    and the names ahead of the deeds that the piece itself asks for."""
    deeds, end = piece
    sources = {}
    asked = []
    for deed in deeds:
        word, name = deed[0], deed[1]
        if word == "tell":
            asked.append(sources.get(name, name))
        elif word == "copy":
            sources[name] = sources.get(deed[2], deed[2])
        elif word != "add":
            sources[name] = None
    asked.extend([sources.get(name, name) for name in asked_by(end)])
    return (sources, [name for name in asked if name is not None])


def ways_back(plan):
    """For each piece the pieces of which a way on leads to it."""
    back = [[] for piece in plan]
    for at, (deeds, end) in enumerate(plan):
        for way in ways_on(end):
            back[way].append(at)
    return back


def live(plan):
    """For each piece the rising tuple of names that are live there."""
    traces = [traced(piece) for piece in plan]
    back = ways_back(plan)
    found = [{name: True for name in asked} for sources, asked in traces]
    waiting = [(at, name) for at, names in enumerate(found) for name in names]
    while waiting:
        at, name = waiting.pop()
        for ahead in back[at]:
            source = traces[ahead][0].get(name, name)
            if source is not None and source not in found[ahead]:
                found[ahead][source] = True
                waiting.append((ahead, source))
    return tuple([tuple(sorted(names)) for names in found])


def without_spare(deeds, names):
    """The deeds but for the spare ones, where these names are live behind all of them."""
    wanted = set(names)
    kept = []
    for deed in reversed(deeds):
        word, name = deed[0], deed[1]
        if word in ("put", "copy", "add") and name not in wanted:
            continue
        kept.append(deed)
        if word in ("put", "copy", "read"):
            wanted.discard(name)
        if word == "tell":
            wanted.add(name)
        if word == "copy":
            wanted.add(deed[2])
    return tuple(kept[::-1])


def spare(plan):
    """The plan without spare deeds."""
    at_pieces = live(plan)
    pieces = []
    for deeds, end in plan:
        names = asked_by(end)
        for way in ways_on(end):
            names.extend(at_pieces[way])
        pieces.append((without_spare(deeds, names), end))
    return tuple(pieces)
