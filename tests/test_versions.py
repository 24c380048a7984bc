"""Points 10 and 12: versions, the value of a name, and sweeping."""

import unittest

from keptrow.errors import Late, Taken
from keptrow.shelf import Shelf
from helpers import Case, put


class Versions(Case):
    def setUp(self):
        self.shelf = Shelf()

    def test_numbered_by_the_moment_at_which_it_was_kept(self):
        put(self.shelf, a=5)
        put(self.shelf, b=6)
        put(self.shelf, a=7)
        self.assert_same(self.shelf.versions("a"), [(1, 5), (3, 7)])
        self.assert_same(self.shelf.versions("b"), [(2, 6)])
        self.assert_same(self.shelf.value("a"), 7)
        self.assert_same(self.shelf.value("b"), 6)

    def test_numbered_by_the_moment_and_not_by_the_place(self):
        reader = self.shelf.begin()
        put(self.shelf, a=1)
        self.shelf.read(reader, "a")
        self.shelf.write(reader, "b", 2)
        self.assert_same(self.shelf.keep(reader), 0)
        self.assert_same(self.shelf.versions("a"), [(1, 1)])
        self.assert_same(self.shelf.versions("b"), [(2, 2)])

    def test_dealings_without_writes_and_dropped_ones_count_as_points_3_and_9_say(self):
        self.shelf.keep(self.shelf.begin())
        self.shelf.drop(self.shelf.begin())
        put(self.shelf, a=1)
        self.assert_same(self.shelf.versions("a"), [(2, 1)])

    def test_none_is_a_version_too(self):
        put(self.shelf, a=1)
        put(self.shelf, a=None)
        self.assert_same(self.shelf.versions("a"), [(1, 1), (2, None)])
        self.assert_same(self.shelf.value("a"), None)
        put(self.shelf, b=None)
        self.assert_same(self.shelf.versions("b"), [(3, None)])

    def test_one_version_for_a_name_that_was_written_several_times(self):
        number = self.shelf.begin()
        for value in [1, 2, None, 3]:
            self.shelf.write(number, "a", value)
            self.shelf.write(number, "b", 9)
        self.shelf.keep(number)
        self.assert_same(self.shelf.versions("a"), [(1, 3)])
        self.assert_same(self.shelf.versions("b"), [(1, 9)])

    def test_the_same_value_again_is_a_version_too(self):
        put(self.shelf, a=1)
        put(self.shelf, a=1)
        self.assert_same(self.shelf.versions("a"), [(1, 1), (2, 1)])

    def test_a_write_taken_back_leaves_none(self):
        number = self.shelf.begin()
        self.shelf.write(number, "a", 1)
        self.shelf.write(number, "b", 2)
        self.shelf.write(number, "a", 3)
        self.shelf.back(number, 1)
        self.shelf.keep(number)
        self.assert_same(self.shelf.versions("a"), [(1, 1)])
        self.assert_same(self.shelf.versions("b"), [])

    def test_open_and_dropped_ones_have_none(self):
        number = self.shelf.begin()
        self.shelf.write(number, "a", 1)
        self.assert_same(self.shelf.versions("a"), [])
        self.shelf.drop(number)
        self.assert_same(self.shelf.versions("a"), [])
        self.assert_same(self.shelf.value("a"), None)


class Sweeping(Case):
    def setUp(self):
        self.shelf = Shelf()

    def test_nothing_there(self):
        self.assert_same(self.shelf.sweep(), 0)
        self.shelf.begin()
        self.assert_same(self.shelf.sweep(), 0)

    def test_no_dealing_open(self):
        for value in range(4):
            put(self.shelf, a=value)
        put(self.shelf, b=1)
        self.assert_same(self.shelf.sweep(), 3)
        self.assert_same(self.shelf.versions("a"), [(4, 3)])
        self.assert_same(self.shelf.versions("b"), [(5, 1)])
        self.assert_same(self.shelf.value("a"), 3)
        self.assert_same(self.shelf.sweep(), 0)
        self.assert_same(self.shelf.versions("a"), [(4, 3)])

    def test_the_newest_ones_value_none(self):
        put(self.shelf, a=1)
        put(self.shelf, a=None)
        self.assert_same(self.shelf.sweep(), 1)
        self.assert_same(self.shelf.versions("a"), [(2, None)])
        self.assert_same(self.shelf.value("a"), None)
        self.assert_same(self.shelf.sweep(), 0)

    def test_several_open_with_unlike_starts(self):
        readers = []
        for value in range(5):
            put(self.shelf, a=value)
            readers.append(self.shelf.begin())
        # Their starts are 1 to 5; the least one among the open ones counts.
        self.assert_same(self.shelf.sweep(), 0)
        self.shelf.drop(readers[1])
        self.assert_same(self.shelf.sweep(), 0)
        self.shelf.drop(readers[0])
        self.assert_same(self.shelf.sweep(), 2)
        self.assert_same(self.shelf.versions("a"), [(3, 2), (4, 3), (5, 4)])
        self.assert_same([self.shelf.read(number, "a") for number in readers[2:]], [2, 3, 4])
        self.shelf.keep(readers[2])
        self.shelf.drop(readers[4])
        self.assert_same(self.shelf.sweep(), 1)
        self.assert_same(self.shelf.versions("a"), [(4, 3), (5, 4)])
        self.shelf.drop(readers[3])
        self.assert_same(self.shelf.sweep(), 1)
        self.assert_same(self.shelf.versions("a"), [(5, 4)])

    def test_the_least_start_is_not_that_of_the_first_one_alone(self):
        put(self.shelf, a=0)
        first = self.shelf.begin()
        put(self.shelf, a=1)
        second = self.shelf.begin()
        put(self.shelf, a=2)
        self.shelf.drop(first)
        third = self.shelf.begin()
        self.assert_same(self.shelf.sweep(), 1)
        self.assert_same(self.shelf.read(second, "a"), 1)
        self.assert_same(self.shelf.read(third, "a"), 2)

    def test_no_version_numbered_so_low(self):
        number = self.shelf.begin()
        for value in range(3):
            put(self.shelf, a=value)
        self.assert_same(self.shelf.sweep(), 0)
        self.assert_same(self.shelf.versions("a"), [(1, 0), (2, 1), (3, 2)])
        self.assert_same(self.shelf.read(number, "a"), None)

    def test_the_newest_numbered_no_higher_may_be_older_than_the_start(self):
        put(self.shelf, a=0)
        put(self.shelf, a=1)
        put(self.shelf, b=0)
        put(self.shelf, b=1)
        number = self.shelf.begin()
        put(self.shelf, a=2)
        self.assert_same(self.shelf.sweep(), 2)
        self.assert_same(self.shelf.versions("a"), [(2, 1), (5, 2)])
        self.assert_same(self.shelf.versions("b"), [(4, 1)])
        self.assert_same(self.shelf.under(number, ""), [("a", 1), ("b", 1)])

    def test_how_many_over_several_names(self):
        for value in range(3):
            put(self.shelf, a=value, b=value, c=value)
        put(self.shelf, d=0)
        put(self.shelf, a=9)
        self.assert_same(self.shelf.sweep(), 7)
        self.assert_same(self.shelf.sweep(), 0)

    def test_what_a_write_is_refused_for_stays(self):
        number = self.shelf.begin()
        put(self.shelf, a=1)
        put(self.shelf, a=2)
        holder = self.shelf.begin()
        self.shelf.write(holder, "b", 1)
        for _ in range(2):
            self.assert_refused(Late, self.shelf, self.shelf.write, number, "a", 3)
            self.assert_refused(Taken, self.shelf, self.shelf.write, number, "b", 3)
            self.shelf.sweep()

    def test_places_stay(self):
        for sweeping in [False, True]:
            with self.subTest(sweeping=sweeping):
                shelf = Shelf()
                first = put(shelf, a=1)
                second = put(shelf, a=2)
                number = shelf.begin()
                third = put(shelf, a=3)
                if sweeping:
                    self.assert_same(shelf.sweep(), 1)
                shelf.read(number, "a")
                self.assert_same(shelf.keep(number), 2)
                self.assert_same(shelf.order(), [first, second, number, third])

    def test_places_by_versions_that_were_let_go(self):
        # What the swept writers wrote still makes a dealing cross.
        for sweeping in [False, True]:
            with self.subTest(sweeping=sweeping):
                shelf = Shelf()
                early = shelf.begin()
                shelf.read(early, "c")
                shelf.write(early, "e", 1)
                put(shelf, c=1)
                put(shelf, c=2)
                number = shelf.begin()
                self.assert_same(shelf.keep(early), 0)
                if sweeping:
                    self.assert_same(shelf.sweep(), 1)
                self.assert_same(shelf.read(number, "e"), None)
                shelf.write(number, "c", 3)
                self.assert_crossed(shelf, number)


if __name__ == "__main__":
    unittest.main()
