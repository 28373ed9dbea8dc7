"""The refusals of the program."""


class PlanError(ValueError):
    """Any refusal."""


class TooMany(PlanError):
    """More than a bound allows would be needed."""


class NoPiece(PlanError):
    """The plan has no piece of that number."""


class NoRow(PlanError):
    """A row that a desk does not know."""


class NothingLeft(PlanError):
    """No deed is left to undo."""


class NoPlan(PlanError):
    """A line that writes no piece; its number is kept."""

    def __init__(self, line):
        PlanError.__init__(self, f"no piece is written by line {line}")
        self.line = line
