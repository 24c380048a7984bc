"""Point 15: which refusal is told, and that nothing is changed by it."""

import unittest

from keptrow.errors import Crossed, Late, NoDealing, NoMark, NoName, NoValue, Over, Taken
from keptrow.shelf import Shelf
from helpers import NO_HEADS, NO_NAMES, NO_NUMBERS, NO_VALUES, Case, put

# Things that are wrong in each place behind the number: the number's refusals come first.
WRONG = {
    "read": [("a",), ("",), (None,), ([],)],
    "under": [("",), ("A",), (None,), ([],)],
    "write": [("a", 1), ("", 1), ("a", True), (None, []), ("x", 1), ("y", 1)],
    "back": [(0,), (-1,), (None,), (True,)],
    "made": [()],
    "keep": [()],
    "drop": [()],
    "ended": [()],
    "deeds": [()],
}
OF_ANY_DEALING = ["ended", "deeds"]


class Refusals(Case):
    def setUp(self):
        """One kept (0), one dropped (1), one open (2), one crossed (3), one open that holds x (4); y is late for 2."""
        self.shelf = Shelf()
        shelf = self.shelf
        for _ in range(5):
            shelf.begin()
        shelf.read(0, "p")
        shelf.write(0, "q", 1)
        shelf.read(3, "q")
        shelf.write(3, "p", 1)
        shelf.write(1, "b", 1)
        shelf.write(0, "y", 7)
        shelf.keep(0)
        shelf.drop(1)
        with self.assertRaises(Crossed):
            shelf.keep(3)
        shelf.under(2, "")
        shelf.read(2, "y")
        shelf.write(2, "c", 1)
        shelf.write(4, "x", 1)

    def test_the_shelf_is_as_it_says(self):
        self.assert_same([self.shelf.ended(n) for n in range(5)], ["kept", "dropped", "open", "dropped", "open"])

    def test_numbers_that_are_none(self):
        for method in WRONG:
            call = getattr(self.shelf, method)
            for number in NO_NUMBERS + [-1, -5, 5, 6, 100]:
                for things in WRONG[method]:
                    self.assert_refused(NoDealing, self.shelf, call, number, *things)

    def test_numbers_on_an_empty_shelf(self):
        shelf = Shelf()
        for method in WRONG:
            for number in NO_NUMBERS + [0, 1, -1]:
                for things in WRONG[method]:
                    self.assert_refused(NoDealing, shelf, getattr(shelf, method), number, *things)

    def test_over(self):
        for method in WRONG:
            if method in OF_ANY_DEALING:
                continue
            for number in [0, 1, 3]:
                for things in WRONG[method]:
                    self.assert_refused(Over, self.shelf, getattr(self.shelf, method), number, *things)

    def test_ended_and_deeds_are_told_of_any(self):
        self.assert_same(self.shelf.deeds(0), [("read", "p", None), ("write", "q", 1), ("write", "y", 7)])
        self.assert_same(self.shelf.deeds(1), [("write", "b", 1)])
        self.assert_same(self.shelf.deeds(2), [("under", "", []), ("read", "y", None), ("write", "c", 1)])
        self.assert_same(self.shelf.deeds(3), [("read", "q", None), ("write", "p", 1)])

    def test_names_that_are_none(self):
        for name in NO_NAMES:
            self.assert_refused(NoName, self.shelf, self.shelf.read, 2, name)
            self.assert_refused(NoName, self.shelf, self.shelf.value, name)
            self.assert_refused(NoName, self.shelf, self.shelf.versions, name)
            for value in [1, None] + NO_VALUES:
                self.assert_refused(NoName, self.shelf, self.shelf.write, 2, name, value)

    def test_heads_that_are_none(self):
        for head in NO_HEADS:
            self.assert_refused(NoName, self.shelf, self.shelf.under, 2, head)
        self.assert_same(self.shelf.under(2, ""), [("c", 1)])

    def test_values_that_are_none(self):
        # x would be Taken and y would be Late, both of which come behind.
        for name in ["a", "c", "x", "y"]:
            for value in NO_VALUES:
                self.assert_refused(NoValue, self.shelf, self.shelf.write, 2, name, value)

    def test_numbers_of_writes_that_are_none(self):
        for many in [-1, 2, 3, True, False, None, "", "0", "1", [], [0], (), (1,), 10**5000, -(10**5000)]:
            self.assert_refused(NoMark, self.shelf, self.shelf.back, 2, many)
        for many in [True, False, 1]:
            number = self.shelf.begin()
            self.assert_refused(NoMark, self.shelf, self.shelf.back, number, many)

    def test_taken_and_late(self):
        self.assert_refused(Taken, self.shelf, self.shelf.write, 2, "x", 1)
        self.assert_refused(Late, self.shelf, self.shelf.write, 2, "y", 1)
        new = self.shelf.begin()
        self.shelf.write(new, "y", 1)
        self.assert_refused(Taken, self.shelf, self.shelf.write, 2, "y", 1)
        self.shelf.drop(new)
        self.assert_refused(Late, self.shelf, self.shelf.write, 2, "y", 1)

    def test_crossed_comes_behind_over(self):
        self.assert_refused(Over, self.shelf, self.shelf.keep, 3)

    def test_the_open_ones_go_on_behind_all_these(self):
        self.test_taken_and_late()
        self.shelf.back(2, 1)
        self.assert_same(self.shelf.made(2), 1)
        self.shelf.write(2, "d", 2)
        self.assert_same(self.shelf.keep(2), 0)
        self.assert_same(self.shelf.order(), [2, 0])
        self.assert_same(self.shelf.keep(4), 2)
        self.assert_same(self.shelf.value("x"), 1)

    def test_what_was_refused_has_no_weight_when_it_is_kept(self):
        shelf = Shelf()
        number, other = shelf.begin(), shelf.begin()
        for name in NO_NAMES:
            with self.assertRaises(NoName):
                shelf.read(number, name)
        for head in NO_HEADS:
            with self.assertRaises(NoName):
                shelf.under(number, head)
        with self.assertRaises(NoValue):
            shelf.write(number, "a", True)
        shelf.write(other, "a", 1)
        with self.assertRaises(Taken):
            shelf.write(number, "a", 1)
        last = put(shelf, b=1)
        with self.assertRaises(Late):
            shelf.write(number, "b", 1)
        self.assert_same(shelf.keep(number), 1)
        self.assert_same(shelf.order(), [last, number])
        self.assert_same(shelf.versions("a"), [])
        self.assert_same(shelf.versions("b"), [(1, 1)])

    def test_a_thing_that_was_refused_stays_as_handed_in(self):
        things = ["a", ["b"]]
        for call, more in [
            (self.shelf.read, (2, things)), (self.shelf.under, (2, things)), (self.shelf.write, (2, "a", things)),
            (self.shelf.back, (2, things)), (self.shelf.value, (things,)), (self.shelf.ended, (things,)),
        ]:
            with self.assertRaises(ValueError):
                call(*more)
            self.assert_same(things, ["a", ["b"]])


if __name__ == "__main__":
    unittest.main()
