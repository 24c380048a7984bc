"""What a name, a head and a value is, and when a name lies under a head."""

SIGNS = "abcdefghijklmnopqrstuvwxyz0123456789."
LONGEST = 12
LARGEST = 10 ** 30


def is_whole(thing):
    """Tell whether the thing is a whole number."""
    # Python counts True and False among the integers, the document does not.
    return isinstance(thing, int) and not isinstance(thing, bool)


def is_name(thing):
    """Tell whether the thing is a name: a head that is not empty."""
    return is_head(thing) and thing != ""


def is_head(thing):
    """Tell whether the thing is a head: a text of at most twelve good signs."""
    if not isinstance(thing, str) or len(thing) > LONGEST:
        return False
    return all(sign in SIGNS for sign in thing)


def is_value(thing):
    """Tell whether the thing is a value: None, or a whole number within the bounds."""
    if thing is None:
        return True
    return is_whole(thing) and -LARGEST <= thing <= LARGEST


def is_under(name, head):
    """Tell whether the name lies under the head: whether it begins with it."""
    return name.startswith(head)


def heads_of(name):
    """Tell all heads under which the name lies."""
    return [name[:length] for length in range(len(name) + 1)]
