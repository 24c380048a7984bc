"""The versions of the names: their values, numbered by the moments at which they were kept."""

from keptrow.names import is_under


class History:
    """For each name that was ever kept the pairs (moment, value) that are there, rising."""

    def __init__(self):
        self._versions = {}

    def add_version(self, name, moment, value):
        """Give the name a version that is newer than all it has."""
        self._versions.setdefault(name, []).append((moment, value))

    def versions_of(self, name):
        """Tell a new list of the name's versions."""
        return list(self._versions.get(name, []))

    def newest(self, name):
        """Tell the number of the name's newest version, nought if it never had one."""
        if name not in self._versions:
            return 0
        return self._versions[name][-1][0]

    def value_at(self, name, moment):
        """Tell the value of the name's newest version numbered no higher than the moment."""
        versions = self._versions.get(name, [])
        many = many_up_to(versions, moment)
        return versions[many - 1][1] if many > 0 else None

    def values_under(self, head, moment):
        """Tell the values at the moment of the names under the head, as a dict."""
        names = [name for name in self._versions if is_under(name, head)]
        return {name: self.value_at(name, moment) for name in names}

    def let_go(self, moment):
        """Drop the versions that no reading at the moment or later needs; tell how many."""
        gone = 0
        for name in list(self._versions):
            gone += self._let_go_of(name, moment)
        return gone

    def _let_go_of(self, name, moment):
        """Drop the name's versions older than the newest one numbered no higher than the moment."""
        old = max(0, many_up_to(self._versions[name], moment) - 1)
        self._versions[name] = self._versions[name][old:]
        return old


def many_up_to(versions, moment):
    """Tell how many of the versions are numbered no higher than the moment."""
    # Halving, for a name may have any number of versions.
    low = 0
    high = len(versions)
    while low < high:
        middle = (low + high) // 2
        if versions[middle][0] <= moment:
            low = middle + 1
        else:
            high = middle
    return low
