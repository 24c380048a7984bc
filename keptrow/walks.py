"""Rows of deeds, done again one dealing after the other."""

from keptrow.errors import Unlike
from keptrow.names import is_under
from keptrow.writes import Writes, pairs_of


def walked(rows):
    """Do the rows' deeds one row upon the other; tell the pairs (name, value) that are left."""
    left = {}
    for deeds in rows:
        writes = Writes()
        for deed in deeds:
            do_again(deed, writes, left)
        for name in writes.names():
            left[name] = writes.last(name)
    return pairs_of(left)


def do_again(deed, writes, left):
    """Do one deed upon the writes that stand and the values that were left before them."""
    word = deed[0]
    if word == "write":
        writes.add_write(deed[1], deed[2])
    elif word == "back":
        writes.cut(deed[1])
    elif word == "read":
        read_again(deed, writes, left)
    else:
        read_under_again(deed, writes, left)


def read_again(deed, writes, left):
    """Refuse the deed if reading its name tells something else than it says."""
    _, name, said = deed
    if not is_same(writes.told(name, left.get(name)), said):
        raise Unlike("reading a name tells something else")


def read_under_again(deed, writes, left):
    """Refuse the deed if reading its head tells something else than it says."""
    _, head, said = deed
    before = {name: left[name] for name in left if is_under(name, head)}
    told = writes.told_under(head, before)
    if told != said or not all(is_same(told[at][1], said[at][1]) for at in range(len(told))):
        raise Unlike("reading a head tells something else")


def is_same(told, said):
    """Tell whether both are the same value."""
    # To Python True equals 1, but the document takes neither True nor False for a number.
    return told == said and not isinstance(said, bool)
