"""One dealing: what it has done so far, and what of it is of weight when it is to be kept."""

from keptrow.writes import Writes


class Dealing:
    """Its start, its state, its writes that stand, the names and heads it looked at, its deeds."""

    def __init__(self, start):
        self.start = start
        self.state = "open"
        self.writes = Writes()
        # Dicts of True, for they tell their keys in one order everywhere.
        self.looked_names = {}
        self.looked_heads = {}
        self.done = []

    def told_deeds(self):
        """Tell the deeds in order; nothing in the list is the dealing's own."""
        return [copy_of(deed) for deed in self.done]


def copy_of(deed):
    """Tell the deed anew, with a list of its own if it has one."""
    if deed[0] == "under":
        return ("under", deed[1], list(deed[2]))
    return deed
