"""The row of the kept dealings, and who wrote and who looked at what among them."""

from keptrow.names import heads_of, is_under
from keptrow.places import place_in


class Row:
    """The kept dealings' numbers in their row, and the same by what they wrote and looked at."""

    def __init__(self):
        self._numbers = []
        self._kept_at = {}
        self._writers = {}
        self._name_lookers = {}
        self._head_lookers = {}

    def numbers(self):
        """Tell a new list of the numbers in their row."""
        return list(self._numbers)

    def length(self):
        """Tell how many dealings are kept."""
        return len(self._numbers)

    def place_for(self, dealing):
        """Tell the place at which the dealing would be put, None if there is none."""
        ahead = self._ahead_by_writes(dealing)
        behind = []
        for number in self._writers_looked_at(dealing):
            if self._kept_at[number] <= dealing.start:
                ahead.append(number)
            else:
                behind.append(number)
        return place_in(self._numbers, ahead, behind)

    def settle(self, place, number, dealing):
        """Put the dealing there; those from that place on move one on."""
        self._numbers.insert(place, number)
        self._kept_at[number] = len(self._numbers)
        enter(self._writers, dealing.writes.names(), number)
        enter(self._name_lookers, list(dealing.looked_names), number)
        enter(self._head_lookers, list(dealing.looked_heads), number)

    def _ahead_by_writes(self, dealing):
        """Tell those that wrote or looked at a name which the dealing writes."""
        found = []
        for name in dealing.writes.names():
            found.extend(self._writers.get(name, []))
            found.extend(self._name_lookers.get(name, []))
            for head in heads_of(name):
                found.extend(self._head_lookers.get(head, []))
        return found

    def _writers_looked_at(self, dealing):
        """Tell those that wrote a name at which the dealing looked."""
        names = {name: True for name in dealing.looked_names}
        for head in dealing.looked_heads:
            names.update({name: True for name in self._writers if is_under(name, head)})
        found = []
        for name in names:
            found.extend(self._writers.get(name, []))
        return found


def enter(table, keys, number):
    """Enter the number in the table under each of the keys."""
    for key in keys:
        table.setdefault(key, []).append(number)
