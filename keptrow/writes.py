"""The writes of one dealing that stand, and what the dealing reads over them."""

from keptrow.names import is_under


class Writes:
    """The writes that stand: their names in order, and for each name its values in order."""

    def __init__(self):
        self._standing = []
        self._worths = {}

    def add_write(self, name, value):
        """Let one more write stand."""
        self._standing.append(name)
        self._worths.setdefault(name, []).append(value)

    def many(self):
        """Tell how many writes stand."""
        return len(self._standing)

    def names(self):
        """Tell each name to which a write stands, once."""
        return list(self._worths)

    def touches(self, name):
        """Tell whether a write to the name stands."""
        return name in self._worths

    def last(self, name):
        """Tell the value that was written last to a name to which a write stands."""
        return self._worths[name][-1]

    def cut(self, many):
        """Let only the first so many writes stand; tell the names to which none stands any more."""
        gone = self._standing[many:]
        self._standing = self._standing[:many]
        freed = []
        for name in gone:
            self._worths[name].pop()
            if len(self._worths[name]) == 0:
                del self._worths[name]
                freed.append(name)
        return freed

    def told(self, name, before):
        """Tell what reading the name tells, before being its value at the start."""
        return self.last(name) if self.touches(name) else before

    def told_under(self, head, before):
        """Tell the pairs under the head, before being the values at the start of the names there."""
        found = {name: before[name] for name in before}
        for name in self._worths:
            if is_under(name, head):
                found[name] = self.last(name)
        return pairs_of(found)


def pairs_of(values):
    """Tell the pairs (name, value), by names, without those that have no value."""
    return [(name, values[name]) for name in sorted(values) if values[name] is not None]
