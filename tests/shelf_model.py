"""The document's points 3 to 13 and 15 once more, as slowly and plainly as they are worded.

Nothing is kept here but the deeds, the moments and the row: each answer is worked out from the deeds anew.
"""

from keptrow import errors
from keptrow.names import is_head, is_name, is_value


class Model:
    def __init__(self):
        self.deeds_of = []
        self.starts = []
        self.states = []
        self.kept_at = {}
        self.row = []
        self.swept = {}

    # What a dealing has done, by its deeds.

    def standing(self, number, deeds=None):
        writes = []
        for deed in self.deeds_of[number] if deeds is None else deeds:
            if deed[0] == "write":
                writes.append(deed[1:])
            if deed[0] == "back":
                writes = writes[:deed[1]]
        return writes

    def wrote(self, number, name):
        return name in [pair[0] for pair in self.standing(number)]

    def looked(self, number, name):
        deeds = self.deeds_of[number]
        for at, deed in enumerate(deeds):
            if deed[0] == "read" and deed[1] == name:
                if name not in [pair[0] for pair in self.standing(number, deeds[:at])]:
                    return True
            if deed[0] == "under" and name[:len(deed[1])] == deed[1]:
                return True
        return False

    def names(self):
        """All names that any deed has named."""
        return sorted({deed[1] for deeds in self.deeds_of for deed in deeds if deed[0] in ("read", "write")})

    # Versions, all of them and those that are there.

    def all_versions(self, name):
        found = []
        for number in sorted(self.kept_at, key=lambda number: self.kept_at[number]):
            values = [value for other, value in self.standing(number) if other == name]
            if values:
                found.append((self.kept_at[number], values[-1]))
        return found

    def seen(self, number, name):
        own = [value for other, value in self.standing(number) if other == name]
        if own:
            return own[-1]
        return ([None] + [value for at, value in self.all_versions(name) if at <= self.starts[number]])[-1]

    # The refusals.

    def begun(self, number):
        if type(number) is not int or number not in range(len(self.starts)):
            raise errors.NoDealing

    def going(self, number):
        self.begun(number)
        if self.states[number] != "open":
            raise errors.Over

    # The interface.

    def begin(self):
        self.starts.append(len(self.row))
        self.states.append("open")
        self.deeds_of.append([])
        return len(self.starts) - 1

    def read(self, number, name):
        self.going(number)
        if not is_name(name):
            raise errors.NoName
        value = self.seen(number, name)
        self.deeds_of[number].append(("read", name, value))
        return value

    def under(self, number, head):
        self.going(number)
        if not is_head(head):
            raise errors.NoName
        pairs = [(name, self.seen(number, name)) for name in self.names() if name[:len(head)] == head]
        pairs = [pair for pair in pairs if pair[1] is not None]
        self.deeds_of[number].append(("under", head, pairs))
        return pairs

    def write(self, number, name, value):
        self.going(number)
        if not is_name(name):
            raise errors.NoName
        if not is_value(value):
            raise errors.NoValue
        for other in range(len(self.starts)):
            if other != number and self.states[other] == "open" and self.wrote(other, name):
                raise errors.Taken
        if [at for at, _ in self.all_versions(name) if at > self.starts[number]]:
            raise errors.Late
        self.deeds_of[number].append(("write", name, value))

    def made(self, number):
        self.going(number)
        return len(self.standing(number))

    def back(self, number, many):
        self.going(number)
        if type(many) is not int or many not in range(len(self.standing(number)) + 1):
            raise errors.NoMark
        self.deeds_of[number].append(("back", many))

    def keep(self, number):
        self.going(number)
        ahead, behind = [], []
        for other in self.row:
            early = self.kept_at[other] <= self.starts[number]
            for name in self.names():
                if self.wrote(number, name) and (self.wrote(other, name) or self.looked(other, name)):
                    ahead.append(other)
                if self.wrote(other, name) and self.looked(number, name):
                    (ahead if early else behind).append(other)
        place = 0
        while place < len(self.row) and self.row[place] not in behind:
            place += 1
        if [other for other in ahead if other not in self.row[:place]]:
            self.states[number] = "dropped"
            raise errors.Crossed
        self.row = self.row[:place] + [number] + self.row[place:]
        self.states[number] = "kept"
        self.kept_at[number] = len(self.row)
        return place

    def drop(self, number):
        self.going(number)
        self.states[number] = "dropped"

    def order(self):
        return self.row

    def moment(self):
        return len(self.row)

    def ended(self, number):
        self.begun(number)
        return self.states[number]

    def deeds(self, number):
        self.begun(number)
        return self.deeds_of[number]

    def value(self, name):
        if not is_name(name):
            raise errors.NoName
        return ([None] + [value for _, value in self.all_versions(name)])[-1]

    def versions(self, name):
        if not is_name(name):
            raise errors.NoName
        return [pair for pair in self.all_versions(name) if pair[0] >= self.swept.get(name, 0)]

    def sweep(self):
        gone = 0
        starts = [self.starts[at] for at, state in enumerate(self.states) if state == "open"]
        least = min(starts + [len(self.row)])
        for name in self.names():
            there = self.versions(name)
            low = [at for at, _ in there if at <= least]
            if low:
                self.swept[name] = low[-1]
            gone += len(there) - len(self.versions(name))
        return gone


def values_one_by_one(model):
    """Point 1: do the kept ones one after the other in their row; tell the names' values, or None if a
    reading told something else."""
    left = {}
    for number in model.row:
        deeds = model.deeds_of[number]
        for at, deed in enumerate(deeds):
            now = dict(left)
            now.update(model.standing(number, deeds[:at]))
            if deed[0] == "read" and now.get(deed[1]) != deed[2]:
                return None
            if deed[0] == "under":
                pairs = [(name, now[name]) for name in sorted(now) if now[name] is not None]
                if [pair for pair in pairs if pair[0][:len(deed[1])] == deed[1]] != deed[2]:
                    return None
        left.update(model.standing(number))
    return left
