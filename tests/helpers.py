"""What several of the tests share."""

import unittest

from keptrow.errors import Crossed

NAMES = ["a", "a.b", "a.b.c", "ab", "b", "b1", "c", "x", "y", "z"]

# What no method takes for the number of a dealing, besides -1 and one too many.
NO_NUMBERS = [True, False, None, "", "0", "a", [], [0], (), (0,), 10**30, -(10**5000), 10**5000]
NO_NAMES = [
    "", "abcdefghijklm", "a" * 1000, "A", "a_b", "a b", "a\n", "\u00e9", "a-b", "/", ":", "`", "{",
    0, 1, -1, 10**5000, True, False, None, [], ["a"], (), ("a",),
]
NO_HEADS = [thing for thing in NO_NAMES if thing != ""]
NO_VALUES = [
    10**30 + 1, -(10**30) - 1, 10**5000, -(10**5000), True, False, "", "1", "a", [], [1], (), (1,), [None], (None,),
]


def told(call, *things):
    """Tell what the call tells, or the refusal's class."""
    try:
        return ("told", call(*things))
    except ValueError as refusal:
        return ("refused", type(refusal))


def begun(shelf):
    """Tell how many dealings have begun, by asking."""
    many = 0
    while told(shelf.ended, many)[0] == "told":
        many += 1
    return many


def everything(shelf, names=NAMES):
    """Tell all that can be asked without a deed."""
    numbers = range(begun(shelf))
    return {
        "order": shelf.order(),
        "moment": shelf.moment(),
        "ended": [shelf.ended(number) for number in numbers],
        "deeds": [shelf.deeds(number) for number in numbers],
        "made": [told(shelf.made, number) for number in numbers],
        "value": [shelf.value(name) for name in names],
        "versions": [shelf.versions(name) for name in names],
    }


def put(shelf, **values):
    """Keep a dealing that writes these values and looks at nothing; tell its number."""
    number = shelf.begin()
    for name in values:
        shelf.write(number, name, values[name])
    shelf.keep(number)
    return number


class Case(unittest.TestCase):
    def assert_refused(self, refusal, shelf, call, *things):
        """The call is refused with just this class, and behind it all is as it was."""
        before = everything(shelf)
        with self.subTest(call=call.__name__, things=repr(things)[:60] if no_giant(things) else "giant"):
            with self.assertRaises(ValueError) as caught:
                call(*things)
            self.assertIs(type(caught.exception), refusal)
            self.assertEqual(everything(shelf), before)

    def assert_crossed(self, shelf, number):
        """Keeping is refused with Crossed: the dealing is dropped, and all else is as it was."""
        before = everything(shelf)
        with self.assertRaises(ValueError) as caught:
            shelf.keep(number)
        self.assertIs(type(caught.exception), Crossed)
        before["ended"][number] = "dropped"
        before["made"][number] = told(shelf.made, number)
        self.assertEqual(before["made"][number][0], "refused")
        self.assertEqual(everything(shelf), before)

    def assert_same(self, found, wanted):
        """Equal, and of the same kinds throughout: True is not 1 here, and a tuple no list."""
        self.assertEqual(found, wanted)
        self.assertEqual(repr(found), repr(wanted))


def no_giant(things):
    """Python refuses to write out very long numbers."""
    return not any(isinstance(thing, int) and abs(thing) > 10**100 for thing in things)
