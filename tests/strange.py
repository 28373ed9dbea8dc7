"""A thing that the truths told of anything are asked about."""


class Strange:
    """It can't be compared, counted or kept as a key."""

    __hash__ = None

    def __eq__(self, other):
        raise RuntimeError("compared")

    def __lt__(self, other):
        raise RuntimeError("compared")

    def __len__(self):
        raise RuntimeError("counted")
