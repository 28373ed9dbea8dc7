"""Runs: what a walker does in a plan, step by step."""

from ledpast.stretches import answer_of


class Stand:
    """Where a walker is in a plan, and what it has got there."""

    def __init__(self, pieces, begin, worths, numbers):
        self.pieces = pieces
        self.passed = [begin]
        self.place = 0
        self.worths = dict(worths)
        self.numbers = list(numbers)
        self.taken = 0
        self.spoken = []
        self.over = False

    def worth(self, name):
        return self.worths.get(name, 0)

    def coming(self):
        """The deed or the end that is the next step."""
        deeds, end = self.pieces[self.passed[-1]]
        return deeds[self.place] if self.place < len(deeds) else end

    def lacks_number(self):
        """Whether the next step is a read for which no number is left."""
        return self.coming()[0] == "read" and self.taken == len(self.numbers)

    def is_held(self):
        """Whether no further step can be done as things are."""
        return self.over or self.lacks_number()

    def take_number(self):
        self.taken += 1
        return self.numbers[self.taken - 1]

    def do_deed(self, deed):
        word, name = deed[0], deed[1]
        if word == "put":
            self.worths[name] = deed[2]
        elif word == "copy":
            self.worths[name] = self.worth(deed[2])
        elif word == "add":
            self.worths[name] = self.worth(name) + deed[2]
        elif word == "read":
            self.worths[name] = self.take_number()
        else:
            self.spoken.append(self.worth(name))
        self.place += 1

    def come_to(self, piece):
        self.passed.append(piece)
        self.place = 0

    def do_end(self, end):
        if end[0] == "stop":
            self.over = True
        elif end[0] == "go":
            self.come_to(end[1])
        else:
            word, name, number, yes, no = end
            worth = self.worth(name)
            self.come_to(yes if answer_of((worth, worth), word, number) == "yes" else no)

    def do_step(self):
        """Does the next step; the walker is not to be held."""
        deeds, end = self.pieces[self.passed[-1]]
        if self.place < len(deeds):
            self.do_deed(deeds[self.place])
        else:
            self.do_end(end)


def go_on(stand, steps):
    """Does so many steps, or as many as can be done; tells how many."""
    done = 0
    while done < steps and not stand.is_held():
        stand.do_step()
        done += 1
    return done


def run_at(plan, piece, worths, numbers, steps):
    """The word of the run that begins at the piece with these worths, and all that it tells."""
    stand = Stand(plan, piece, worths, numbers)
    done = go_on(stand, steps)
    # The read that held it back is itself the last one of the run's steps.
    held = "dry" if done < steps else "on"
    return ("stop" if stand.over else held, tuple(stand.spoken))


def run(plan, numbers, steps):
    """The word of the plan's run for the numbers and the count of steps, and all that it tells."""
    return run_at(plan, 0, {}, numbers, steps)


def seen(plan, numbers, steps):
    """The pieces at which the walker was in these steps, in order."""
    stand = Stand(plan, 0, {}, numbers)
    go_on(stand, steps)
    return tuple(stand.passed)
