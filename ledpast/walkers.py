"""Walkers: they keep their stand from call to call, and go on as numbers come."""

from ledpast.runs import Stand, go_on


class Walker:
    """A walker of a plan."""

    def __init__(self, plan):
        self.stand = Stand(plan, 0, {}, ())
        self.done = 0

    def hand(self, numbers):
        """Hands in a tuple of numbers, behind those that it has not read yet."""
        self.stand.numbers.extend(numbers)

    def go(self, many):
        """Goes on by so many steps, or as many as can be done; tells how many."""
        done = go_on(self.stand, many)
        self.done += done
        return done

    def word(self):
        """stop, dry or on."""
        if self.stand.over:
            return "stop"
        return "dry" if self.stand.lacks_number() else "on"

    def piece(self):
        """The number of its piece."""
        return self.stand.passed[-1]

    def told(self):
        """All that it told, in order."""
        return tuple(self.stand.spoken)

    def worth(self, name):
        """What any name is worth."""
        return self.stand.worth(name)

    def steps(self):
        """How many steps it has done in all."""
        return self.done
