"""Point 13, and point 1 on lists: what is told is new and the asker's own."""

import unittest

from keptrow.errors import Crossed, DealError
from keptrow.places import place_in
from keptrow.shelf import Shelf
from keptrow.walks import walked
from helpers import NAMES, Case, everything, put


class Deeds(Case):
    def setUp(self):
        self.shelf = Shelf()
        put(self.shelf, a=1, b=2)
        self.number = self.shelf.begin()

    def assert_deeds(self, wanted):
        self.assert_same(self.shelf.deeds(self.number), wanted)

    def test_none_yet(self):
        self.assert_deeds([])

    def test_each_kind(self):
        self.shelf.read(self.number, "a")
        self.assert_deeds([("read", "a", 1)])
        self.shelf.under(self.number, "")
        self.shelf.write(self.number, "c", 3)
        self.shelf.write(self.number, "a", None)
        self.shelf.read(self.number, "a")
        self.shelf.read(self.number, "x")
        self.shelf.under(self.number, "a")
        self.shelf.under(self.number, "")
        self.shelf.back(self.number, 1)
        self.shelf.back(self.number, 1)
        self.assert_deeds([
            ("read", "a", 1),
            ("under", "", [("a", 1), ("b", 2)]),
            ("write", "c", 3),
            ("write", "a", None),
            ("read", "a", None),
            ("read", "x", None),
            ("under", "a", []),
            ("under", "", [("b", 2), ("c", 3)]),
            ("back", 1),
            ("back", 1),
        ])

    def test_asking_is_no_deed(self):
        everything(self.shelf)
        self.shelf.sweep()
        self.assert_deeds([])

    def test_of_an_open_a_kept_and_a_dropped_one(self):
        self.shelf.read(self.number, "a")
        self.shelf.write(self.number, "a", 5)
        other = self.shelf.begin()
        self.shelf.under(other, "b")
        wanted = [("read", "a", 1), ("write", "a", 5)]
        self.assert_deeds(wanted)
        self.shelf.keep(self.number)
        self.assert_deeds(wanted)
        self.assert_same(self.shelf.deeds(other), [("under", "b", [("b", 2)])])
        self.shelf.drop(other)
        self.assert_same(self.shelf.deeds(other), [("under", "b", [("b", 2)])])
        self.assert_same(self.shelf.deeds(0), [("write", "a", 1), ("write", "b", 2)])

    def test_of_one_that_was_crossed(self):
        other = self.shelf.begin()
        self.shelf.read(self.number, "x")
        self.shelf.write(self.number, "y", 1)
        self.shelf.read(other, "y")
        self.shelf.write(other, "x", 1)
        self.shelf.keep(other)
        with self.assertRaises(Crossed):
            self.shelf.keep(self.number)
        self.assert_deeds([("read", "x", None), ("write", "y", 1)])

    def test_none_of_those_refused(self):
        other = self.shelf.begin()
        self.shelf.write(other, "x", 1)
        put(self.shelf, y=1)
        for call, things in [
            (self.shelf.read, ("A",)), (self.shelf.under, ("A",)), (self.shelf.write, ("", 1)),
            (self.shelf.write, ("a", True)), (self.shelf.write, ("x", 1)), (self.shelf.write, ("y", 1)),
            (self.shelf.back, (1,)), (self.shelf.back, (-1,)), (self.shelf.back, (False,)),
        ]:
            with self.assertRaises(DealError):
                call(self.number, *things)
        self.assert_deeds([])
        self.shelf.write(self.number, "a", 1)
        self.assert_deeds([("write", "a", 1)])

    def test_a_value_of_a_thousand_readings(self):
        for _ in range(1000):
            self.shelf.read(self.number, "b")
        self.assert_deeds([("read", "b", 2)] * 1000)


class Lists(Case):
    """Each list that is told is changed here; what is asked again tells what it told."""

    def setUp(self):
        self.shelf = Shelf()
        put(self.shelf, a=1, ab=2, b=3)
        put(self.shelf, a=4)
        self.number = self.shelf.begin()
        self.shelf.under(self.number, "a")
        self.shelf.write(self.number, "ac", 5)

    def assert_own(self, ask):
        before = everything(self.shelf)
        for spoil in [lambda xs: xs.append("more"), lambda xs: xs.pop(), lambda xs: xs.clear(), lambda xs: xs.reverse()]:
            told = ask()
            self.assertIs(type(told), list)
            self.assertGreater(len(told), 0)
            copy = list(told)
            spoil(told)
            self.assert_same(ask(), copy)
        now = everything(self.shelf)
        now["deeds"] = before["deeds"]
        self.assert_same(now, before)

    def test_order(self):
        self.assert_own(self.shelf.order)

    def test_deeds(self):
        self.assert_own(lambda: self.shelf.deeds(self.number))
        self.assert_own(lambda: self.shelf.deeds(0))

    def test_the_pairs_in_deeds(self):
        self.assert_own(lambda: self.shelf.deeds(self.number)[0][2])
        self.assert_same(self.shelf.deeds(self.number)[0], ("under", "a", [("a", 4), ("ab", 2)]))

    def test_under(self):
        self.assert_own(lambda: self.shelf.under(self.number, "a"))
        self.assert_own(lambda: self.shelf.under(self.number, ""))

    def test_the_deed_of_a_list_told_by_under(self):
        told = self.shelf.under(self.number, "a")
        told.append(("x", 1))
        wanted = ("under", "a", [("a", 4), ("ab", 2), ("ac", 5)])
        self.assert_same(self.shelf.deeds(self.number)[-1], wanted)
        told.clear()
        self.assert_same(self.shelf.deeds(self.number)[-1], wanted)
        self.shelf.deeds(self.number)[-1][2].clear()
        self.assert_same(self.shelf.deeds(self.number)[-1], wanted)

    def test_versions(self):
        self.assert_own(lambda: self.shelf.versions("a"))
        self.shelf.versions("x").append((1, 1))
        self.assert_same(self.shelf.versions("x"), [])
        self.assert_same(self.shelf.value("x"), None)

    def test_empty_ones(self):
        shelf = Shelf()
        number = shelf.begin()
        for ask in [
            shelf.order, lambda: shelf.versions("a"), lambda: shelf.under(number, ""), lambda: walked([]),
        ]:
            ask().append(7)
            self.assert_same(ask(), [])
        other = shelf.begin()
        shelf.deeds(other).append(7)
        self.assert_same(shelf.deeds(other), [])

    def test_walked(self):
        rows = [[("write", "a", 1), ("write", "b", 2), ("under", "", [("a", 1), ("b", 2)])]]
        self.assert_own(lambda: walked(rows))
        self.assert_same(rows, [[("write", "a", 1), ("write", "b", 2), ("under", "", [("a", 1), ("b", 2)])]])

    def test_the_pairs_are_tuples(self):
        told = self.shelf.under(self.number, "") + self.shelf.versions("a") + self.shelf.deeds(self.number)
        told = told + self.shelf.deeds(self.number)[0][2] + walked([[("write", "a", 1)]])
        self.assertEqual({type(thing) for thing in told}, {tuple})

    def test_lists_told_earlier_stay_whatever_is_done_later(self):
        shelf = self.shelf
        told = [
            shelf.order(), shelf.versions("a"), shelf.versions("x"), shelf.under(self.number, ""),
            shelf.deeds(self.number), shelf.deeds(0),
        ]
        wanted = repr(told)
        shelf.back(self.number, 0)
        self.assertEqual(repr(told), wanted)
        shelf.write(self.number, "x", 1)
        shelf.under(self.number, "")
        shelf.keep(self.number)
        self.assertEqual(repr(told), wanted)
        shelf.sweep()
        for name in NAMES:
            put(shelf, **{name: None})
        self.assertEqual(repr(told), wanted)
        shelf.sweep()
        shelf.drop(shelf.begin())
        self.assertEqual(repr(told), wanted)

    def test_what_place_in_is_handed_stays(self):
        lists = ([3, 1, 2], [1, 3, 1], [2, 2])
        self.assert_same(place_in(*lists), 2)
        self.assert_same(lists, ([3, 1, 2], [1, 3, 1], [2, 2]))


if __name__ == "__main__":
    unittest.main()
