"""Plans made by rule for the tests, and what the document says of them, worked out in a plain way of its own."""

NAMES = ("a", "b", "cc")
FAR = float("inf")


class Made:
    """A row of numbers that is the same each time."""

    def __init__(self, seed):
        self.state = seed * 7919 + 12345

    def below(self, many):
        self.state = (self.state * 6364136223846793005 + 1442695040888963407) % 2 ** 64
        return (self.state >> 33) % many

    def one_of(self, things):
        return things[self.below(len(things))]

    def number(self):
        return self.below(7) - 3

    def deed(self):
        word, name = self.one_of(("put", "copy", "add", "read", "tell", "tell", "add")), self.one_of(NAMES)
        if word in ("put", "add"):
            return (word, name, self.number())
        return (word, name, self.one_of(NAMES)) if word == "copy" else (word, name)

    def end(self, count):
        word = self.one_of(("stop", "go", "less", "is", "less", "is", "less", "is"))
        if word == "stop":
            return (word,)
        if word == "go":
            return (word, self.below(count))
        return (word, self.one_of(NAMES), self.number(), self.below(count), self.below(count))

    def forward(self, at, count):
        """An end whose ways on lead to pieces behind."""
        if at == count - 1:
            return ("stop",)
        end = self.end(count - at - 1)
        many = {"stop": 0, "go": 1}.get(end[0], 2)
        return end[:len(end) - many] + tuple([way + at + 1 for way in end[len(end) - many:]])

    def piece(self, count):
        return (tuple([self.deed() for _ in range(self.below(4))]), self.end(count))

    def plan(self, count):
        """Half of them have few ways back, so that facts come through."""
        pieces = [self.piece(count) for _ in range(count)]
        if self.below(2):
            for at in range(count):
                if self.below(4):
                    pieces[at] = (pieces[at][0], self.forward(at, count))
        return tuple(pieces)

    def numbers(self, most):
        return tuple([self.number() for _ in range(self.below(most + 1))])


def made_plans(many, most):
    made = Made(many + 31 * most)
    return [made.plan(1 + at % most) for at in range(many)]


def is_yes(end, worth):
    return worth < end[2] if end[0] == "less" else worth == end[2]


def plain_steps(plan, at, worths, numbers):
    """Step by step, for ever: what it tells (or None), where it leads (or None), and the word."""
    worths, numbers = dict(worths), list(numbers)
    while True:
        deeds, end = plan[at]
        for deed in deeds:
            name, told = deed[1], None
            if deed[0] == "read" and not numbers:
                yield None, None, "dry"
                return
            if deed[0] == "tell":
                told = worths.get(name, 0)
            else:
                worths[name] = {
                    "put": lambda: deed[2],
                    "copy": lambda: worths.get(deed[2], 0),
                    "add": lambda: worths.get(name, 0) + deed[2],
                    "read": lambda: numbers.pop(0),
                }[deed[0]]()
            yield told, None, "on"
        if end == ("stop",):
            yield None, None, "stop"
            return
        at = end[1] if end[0] == "go" else end[3] if is_yes(end, worths.get(end[1], 0)) else end[4]
        yield None, at, "on"


def plain_run(plan, numbers, steps, at=0, worths=()):
    """(word, told, seen) of a run."""
    word, told, seen = "on", [], [at]
    for count, (says, leads, now) in enumerate(plain_steps(plan, at, worths, numbers)):
        if count == steps:
            break
        word = now
        told += [] if says is None else [says]
        seen += [] if leads is None else [leads]
        if now != "on":
            break
    return word, tuple(told), tuple(seen)


def opened(facts):
    """Facts as a dict, with ends that lie for ever away where they are open."""
    return {name: (-FAR if low is None else low, FAR if high is None else high) for name, (low, high) in facts}


def closed(table):
    rows = sorted([(name, ends) for name, ends in table.items() if ends != (-FAR, FAR)])
    return tuple([(name, (None if low == -FAR else low, None if high == FAR else high)) for name, (low, high) in rows])


def plain_behind(facts, deeds):
    table, every = opened(facts), (-FAR, FAR)
    for deed in deeds:
        if deed[0] == "put":
            table[deed[1]] = (deed[2], deed[2])
        elif deed[0] == "copy":
            table[deed[1]] = table.get(deed[2], every)
        elif deed[0] == "add":
            table[deed[1]] = tuple([end if abs(end) == FAR else end + deed[2] for end in table.get(deed[1], every)])
        elif deed[0] == "read":
            table.pop(deed[1], None)
    return closed(table)


def plain_sides(facts, end):
    """A list of (side, P, facts) of a test, a go or a stop."""
    if end[0] in ("stop", "go"):
        return [("go", way, facts) for way in end[1:]]
    word, name, number, yes, no = end
    low, high = opened(facts).get(name, (-FAR, FAR))
    if word == "less":
        parts = [("yes", yes, low, min(high, number - 1)), ("no", no, max(low, number), high)]
    else:
        parts = [("yes", yes, max(low, number), min(high, number))]
        parts += [("no", no, low + 1 if low == number else low, high - 1 if high == number else high)]
    return [
        (side, way, closed({**opened(facts), name: (least, most)})) for side, way, least, most in parts if least <= most
    ]


def plain_heads(plan):
    found, waiting = [0], [0]
    tops = []
    for at in waiting:
        for way in [part for part in plan[at][1][1 if plan[at][1][0] == "go" else 3:]]:
            if way <= at:
                tops.append(way)
            if way not in found:
                found.append(way)
                waiting.append(way)
    return tops


def plain_led(plan, most):
    """The plan led past and its copies; most is None for no bound."""
    tops = plain_heads(plan)
    names = {part for deeds, end in plan for step in deeds + (end,) for part in step[1:] if isinstance(part, str)}
    copies = [(0, () if 0 in tops else tuple([(name, (0, 0)) for name in sorted(names)]))]
    pieces = []
    for at, facts in copies:
        deeds, end = plan[at]
        came = []
        for _, way, there in plain_sides(plain_behind(facts, deeds), end):
            bare = way in tops or most is not None and (way, there) not in copies and len(copies) >= most
            one = (way, ()) if bare else (way, there)
            if one not in copies:
                copies.append(one)
            came.append(copies.index(one))
        pieces.append((deeds, ("go", came[0]) if len(came) == 1 else end[:3] + tuple(came)))
    return tuple(pieces), tuple(copies)


def plain_covers(facts, others):
    mine, theirs = opened(facts), opened(others)
    return all([
        low <= theirs.get(name, (-FAR, FAR))[0] and theirs.get(name, (-FAR, FAR))[1] <= high
        for name, (low, high) in mine.items()
    ])


def plain_paper(plan, other, paper):
    if len(paper) != len(other) or [at for at, _ in paper if at not in range(len(plan))] or paper[0][0]:
        return False
    if [name for name, (low, high) in opened(paper[0][1]).items() if low > 0 or high < 0]:
        return False
    for (at, facts), (deeds, end) in zip(paper, other):
        sides = plain_sides(plain_behind(facts, plan[at][0]), plan[at][1])
        told = plan[at][1]
        if plan[at][0] != deeds:
            return False
        if told[0] in ("stop", "go"):
            fits = end[0] == told[0]
            steads = {"go": end[-1]}
        else:
            same = end[:3] == told[:3]
            fits = same or end[0] == "go" and len(sides) == 1
            steads = {"yes": end[-2], "no": end[-1]} if same else {"yes": end[-1], "no": end[-1]}
        if not fits:
            return False
        for side, way, there in sides:
            met = paper[steads[side]]
            if met[0] != way or not plain_covers(met[1], there):
                return False
    return True
