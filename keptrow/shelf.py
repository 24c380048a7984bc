"""The shelf: dealings read and write side by side, and are kept whole or not at all."""

from keptrow.dealing import Dealing
from keptrow.errors import Crossed, Late, NoDealing, NoMark, NoName, NoValue, Over, Taken
from keptrow.history import History
from keptrow.names import is_head, is_name, is_value, is_whole
from keptrow.row import Row


class Shelf:
    """Names with values in versions, the dealings with them, and the row of the kept ones."""

    def __init__(self):
        self._dealings = []
        self._row = Row()
        self._history = History()
        # For each name with a standing write of an open dealing that dealing's number:
        # there is one at most, for the first to write wins.
        self._holders = {}

    def begin(self):
        """Let a dealing begin; tell its number."""
        self._dealings.append(Dealing(self.moment()))
        return len(self._dealings) - 1

    def read(self, number, name):
        """Tell the value that the dealing sees for the name."""
        dealing = self._going(number)
        must_be_name(name)
        value = dealing.writes.told(name, self._history.value_at(name, dealing.start))
        if not dealing.writes.touches(name):
            dealing.looked_names[name] = True
        dealing.done.append(("read", name, value))
        return value

    def under(self, number, head):
        """Tell the pairs (name, value) that the dealing sees under the head, by names."""
        dealing = self._going(number)
        if not is_head(head):
            raise NoName("this is no head")
        before = self._history.values_under(head, dealing.start)
        pairs = dealing.writes.told_under(head, before)
        dealing.looked_heads[head] = True
        dealing.done.append(("under", head, pairs))
        # The deed keeps its own list, for the asker may change this one.
        return list(pairs)

    def write(self, number, name, value):
        """Give the name a value for the dealing alone."""
        dealing = self._going(number)
        must_be_name(name)
        if not is_value(value):
            raise NoValue("this is no value")
        if self._holders.get(name, number) != number:
            raise Taken("a write of another open dealing to this name stands")
        if self._history.newest(name) > dealing.start:
            raise Late("this name was kept anew since the dealing began")
        dealing.writes.add_write(name, value)
        self._holders[name] = number
        dealing.done.append(("write", name, value))

    def made(self, number):
        """Tell how many of the dealing's writes stand."""
        return self._going(number).writes.many()

    def back(self, number, many):
        """Let only the first so many of the dealing's writes stand."""
        dealing = self._going(number)
        if not is_whole(many) or not 0 <= many <= dealing.writes.many():
            raise NoMark("not a number from 0 to how many writes stand")
        self._let_free(dealing.writes.cut(many))
        dealing.done.append(("back", many))

    def keep(self, number):
        """Keep the dealing and tell its place in the row, or drop it where there is none."""
        dealing = self._going(number)
        place = self._row.place_for(dealing)
        if place is None:
            self._end(dealing, "dropped")
            raise Crossed("the row has no place for this dealing")
        self._row.settle(place, number, dealing)
        moment = self.moment()
        for name in dealing.writes.names():
            self._history.add_version(name, moment, dealing.writes.last(name))
        self._end(dealing, "kept")
        return place

    def drop(self, number):
        """End the dealing; its writes are nowhere."""
        self._end(self._going(number), "dropped")

    def order(self):
        """Tell the kept dealings' numbers in their row."""
        return self._row.numbers()

    def moment(self):
        """Tell how many dealings were kept so far."""
        return self._row.length()

    def ended(self, number):
        """Tell whether the dealing is open, kept or dropped."""
        return self._begun(number).state

    def deeds(self, number):
        """Tell the dealing's deeds in order."""
        return self._begun(number).told_deeds()

    def value(self, name):
        """Tell the name's value now."""
        must_be_name(name)
        return self._history.value_at(name, self.moment())

    def versions(self, name):
        """Tell the pairs (moment, value) of the name's versions that are there, rising."""
        must_be_name(name)
        return self._history.versions_of(name)

    def sweep(self):
        """Let go the versions that no dealing can read any more; tell how many."""
        starts = [dealing.start for dealing in self._dealings if dealing.state == "open"]
        return self._history.let_go(min(starts, default=self.moment()))

    def _begun(self, number):
        """Tell the dealing of that number."""
        if not is_whole(number) or not 0 <= number < len(self._dealings):
            raise NoDealing("no dealing of this number has begun")
        return self._dealings[number]

    def _going(self, number):
        """Tell the dealing of that number, which must be open."""
        dealing = self._begun(number)
        if dealing.state != "open":
            raise Over("this dealing is not open")
        return dealing

    def _end(self, dealing, state):
        """End the dealing; its writes stand in nobody's way any more."""
        dealing.state = state
        self._let_free(dealing.writes.names())

    def _let_free(self, names):
        """Let others write to these names again."""
        for name in names:
            del self._holders[name]


def must_be_name(thing):
    """Refuse what is no name."""
    if not is_name(thing):
        raise NoName("this is no name")
