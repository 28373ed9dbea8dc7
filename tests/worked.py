"""What the document says from short plans on, worked out in a plain way of its own."""

import itertools
import re

from made import FAR, Made, closed, is_yes, opened, plain_behind, plain_covers, plain_led, plain_sides


def ways(end):
    return end[1 if end[0] == "go" else 3:]


def idle_plans(many, most):
    """Made plans in which many pieces are idle."""
    made = Made(many + 37 * most)
    plans = []
    for at in range(many):
        pieces = list(made.plan(1 + at % most))
        for place in range(len(pieces)):
            if made.below(2):
                pieces[place] = ((), ("go", made.below(len(pieces))))
        plans.append(tuple(pieces))
    return plans


def plain_followed(plan, at):
    idle = [deeds == () and end[0] == "go" for deeds, end in plan]
    for _ in plan:
        if idle[at]:
            at = plan[at][1][1]
    # So many go's lead into the round, where there is one.
    least = at
    for _ in plan:
        if idle[at]:
            at = plan[at][1][1]
            least = min(least, at)
    return least


def plain_short(plan):
    order = [plain_followed(plan, 0)]
    for at in order:
        for way in ways(plan[at][1]):
            if plain_followed(plan, way) not in order:
                order.append(plain_followed(plan, way))
    pieces = []
    for at in order:
        deeds, end = plan[at]
        led = tuple([order.index(plain_followed(plan, way)) for way in ways(end)])
        pieces.append((deeds, end[:len(end) - len(led)] + led))
    return tuple(pieces), tuple(order)


def plain_walk(plan, numbers, steps):
    """(steps done, word, piece, told, worths) of a walker that has these numbers at once and goes on so far."""
    at, place, taken, done, told, worths, over = 0, 0, 0, 0, [], {}, False
    while True:
        deeds, end = plan[at]
        step = deeds[place] if place < len(deeds) else end
        waits = step[0] == "read" and taken == len(numbers)
        if over or waits or done == steps:
            return done, "stop" if over else "dry" if waits else "on", at, tuple(told), worths
        done, place = done + 1, place + 1
        if step[0] == "stop":
            over = True
        elif step[0] == "go":
            at, place = step[1], 0
        elif step[0] in ("less", "is"):
            at, place = step[3 if is_yes(step, worths.get(step[1], 0)) else 4], 0
        elif step[0] == "put":
            worths[step[1]] = step[2]
        elif step[0] == "add":
            worths[step[1]] = worths.get(step[1], 0) + step[2]
        elif step[0] == "copy":
            worths[step[1]] = worths.get(step[2], 0)
        elif step[0] == "read":
            worths[step[1]] = numbers[taken]
            taken += 1
        else:
            told.append(worths.get(step[1], 0))


def plain_stands(plan, table):
    if len(table) != len(plan) or table[0] is None or not plain_covers(table[0], [(name, (0, 0)) for name, _ in table[0]]):
        return False
    for (deeds, end), entry in zip(plan, table):
        if entry is not None:
            for _, way, facts in plain_sides(plain_behind(entry, deeds), end):
                if table[way] is None or not plain_covers(table[way], facts):
                    return False
    return True


def plain_names(plan):
    return sorted({part for deeds, end in plan for step in deeds + (end,) for part in step[1:] if isinstance(part, str)})


def plain_widened(entry, facts):
    mine, theirs = opened(entry), opened(facts)
    wide = {}
    for name, (low, high) in mine.items():
        least, most = theirs.get(name, (-FAR, FAR))
        wide[name] = (-FAR if least < low else low, FAR if most > high else high)
    return closed(wide)


def plain_table(plan):
    table = {0: tuple([(name, (0, 0)) for name in plain_names(plan)])}
    waiting = [0]
    while waiting:
        at = min(waiting)
        waiting = [other for other in waiting if other != at]
        for _, way, facts in plain_sides(plain_behind(table[at], plan[at][0]), plan[at][1]):
            if way not in table:
                table[way] = facts
                waiting.append(way)
            elif not plain_covers(table[way], facts):
                table[way] = plain_widened(table[way], facts)
                waiting.append(way)
    return tuple([table.get(at) for at in range(len(plan))])


def plain_ahead(deed, names):
    """The names that are live ahead of a deed, by those that are live behind it."""
    word, name = deed[:2]
    if word == "tell":
        return names | {name}
    if word in ("put", "read"):
        return names - {name}
    if word == "copy" and name in names:
        return names - {name} | {deed[2]}
    return names


def plain_end_names(end, sets):
    names = {end[1]} if end[0] in ("less", "is") else set()
    return names.union(*[sets[way] for way in ways(end)])


def plain_live_sets(plan):
    sets, before = [set() for _ in plan], None
    while sets != before:
        before = list(sets)
        for at, (deeds, end) in enumerate(plan):
            names = plain_end_names(end, sets)
            for deed in deeds[::-1]:
                names = plain_ahead(deed, names)
            sets[at] = names
    return sets


def plain_live(plan):
    return tuple([tuple(sorted(names)) for names in plain_live_sets(plan)])


def plain_spare(plan):
    sets, pieces = plain_live_sets(plan), []
    for deeds, end in plan:
        names, kept = plain_end_names(end, sets), []
        for deed in deeds[::-1]:
            if deed[0] not in ("put", "copy", "add") or deed[1] in names:
                kept = [deed] + kept
            names = plain_ahead(deed, names)
        pieces.append((tuple(kept), end))
    return tuple(pieces)


def sides_of(end):
    """A dict from the sides of an end to its ways on."""
    return dict(zip(("go",) if end[0] == "go" else ("yes", "no"), ways(end)))


def plain_surface(plan, at):
    deeds, end = plan[at]
    return deeds, end[:len(end) - len(ways(end))]


def plain_come(plan, at, sides):
    """The piece to which the sides lead, or None where there is no such side."""
    for side in sides:
        at = sides_of(plan[at][1]).get(side)
        if at is None:
            return None
    return at


def plain_parting(plan, one, other):
    """All tuples of sides are gone through, the shortest and least first; two pieces of n part by fewer than n sides."""
    for many in range(len(plan)):
        for sides in itertools.product(("go", "no", "yes"), repeat=many):
            first, second = plain_come(plan, one, sides), plain_come(plan, other, sides)
            if None not in (first, second) and plain_surface(plan, first) != plain_surface(plan, second):
                return sides
    return None


def plain_alike(plan):
    """Pairs are marked that are unlike, or lead to such, until there are no more."""
    count = len(plan)
    apart = {(a, b) for a in range(count) for b in range(count) if plain_surface(plan, a) != plain_surface(plan, b)}
    before = -1
    while len(apart) > before:
        before = len(apart)
        for a in range(count):
            for b in range(count):
                if any([pair in apart for pair in zip(ways(plan[a][1]), ways(plan[b][1]))]):
                    apart.add((a, b))
    return tuple([min([b for b in range(count) if (a, b) not in apart]) for a in range(count)])


def plain_joined(plan):
    least = plain_alike(plan)
    order = [least[0]]
    for at in order:
        for way in ways(plan[at][1]):
            if least[way] not in order:
                order.append(least[way])
    pieces = []
    for at in order:
        deeds, end = plain_surface(plan, at)
        pieces.append((deeds, end + tuple([order.index(least[way]) for way in ways(plan[at][1])])))
    return tuple(pieces), tuple([order.index(at) if at in order else None for at in least])


class PlainKeeper:
    """What point 32 says, word by word."""

    def __init__(self, plan, most):
        self.now, self.most, self.count = plan, most, 1
        self.past, self.copies = plain_led(plan, most)

    def exchange(self, place, piece):
        self.now = self.now[:place] + (piece,) + self.now[place + 1:]
        numbers = [at for at, (number, _) in enumerate(self.copies) if number == place]
        past = list(self.past)
        for at in numbers:
            came = []
            for _, way, facts in plain_sides(plain_behind(self.copies[at][1], piece[0]), piece[1]):
                met = [k for k, (number, known) in enumerate(self.copies) if number == way and plain_covers(known, facts)]
                came += met[:1] or [None]
            if None in came:
                self.past, self.copies = plain_led(self.now, self.most)
                self.count += 1
                return None
            past[at] = (piece[0], ("go", came[0]) if len(came) == 1 else piece[1][:3] + tuple(came))
        self.past = tuple(past)
        return tuple(numbers)


NUMBER = "(?:0|-?[1-9][0-9]{0,39})"
NAME = "[a-z]{1,8}"
DEED = f"(?:(?:put|add) {NAME} {NUMBER}|copy {NAME} {NAME}|(?:read|tell) {NAME})"
END = f"(?:stop|go {NUMBER}|(?:less|is) {NAME} {NUMBER} {NUMBER} {NUMBER})"
LINE = re.compile(f"(?:{DEED}; ){{0,12}}{END}")


def plain_step(text):
    return tuple([int(word) if re.fullmatch(NUMBER, word) else word for word in text.split(" ")])


def plain_piece(line, count):
    """The piece that a line writes, or None."""
    if not LINE.fullmatch(line):
        return None
    steps = [plain_step(text) for text in line.split("; ")]
    if [way for way in ways(steps[-1]) if not 0 <= way < count]:
        return None
    return tuple(steps[:-1]), steps[-1]


def plain_plan(text):
    """The plan that a text writes, or the name of the refusal and its field."""
    lines = text.split("\n")
    if len(lines) > 400:
        return "TooMany", None
    pieces = [plain_piece(line, len(lines)) for line in lines]
    return ("NoPlan", pieces.index(None)) if None in pieces else tuple(pieces)
