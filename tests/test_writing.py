"""Points 6, 7 and 11: writing, taking back and dropping."""

import unittest

from keptrow.errors import Late, NoMark, Taken
from keptrow.shelf import Shelf
from helpers import Case, put


class Writing(Case):
    def setUp(self):
        self.shelf = Shelf()
        self.one = self.shelf.begin()
        self.other = self.shelf.begin()

    def test_writing_tells_none(self):
        self.assert_same(self.shelf.write(self.one, "a", 1), None)
        self.assert_same(self.shelf.write(self.one, "a", None), None)

    def test_the_bounds_of_names_and_values(self):
        for name in ["abcdefghijkl", "............", "0", "."]:
            for value in [10**30, -(10**30), 0, None]:
                self.shelf.write(self.one, name, value)
                self.assert_same(self.shelf.read(self.one, name), value)

    def test_taken_by_another_open_dealings_write(self):
        self.shelf.write(self.one, "a", 1)
        self.assert_refused(Taken, self.shelf, self.shelf.write, self.other, "a", 2)
        self.assert_refused(Taken, self.shelf, self.shelf.write, self.other, "a", 1)
        self.assert_refused(Taken, self.shelf, self.shelf.write, self.other, "a", None)

    def test_taken_by_a_none_and_by_a_later_dealing(self):
        self.shelf.write(self.other, "a", None)
        self.assert_refused(Taken, self.shelf, self.shelf.write, self.one, "a", 2)

    def test_taken_by_one_that_began_later_than_versions(self):
        put(self.shelf, a=1)
        third = self.shelf.begin()
        fourth = self.shelf.begin()
        self.shelf.write(fourth, "a", 2)
        self.assert_refused(Taken, self.shelf, self.shelf.write, third, "a", 2)

    def test_other_names_are_free(self):
        self.shelf.write(self.one, "a", 1)
        for name in ["b", "a.", "aa", ".a"]:
            self.shelf.write(self.other, name, 2)
        self.assertEqual(self.shelf.made(self.other), 4)

    def test_a_reading_takes_no_name(self):
        self.shelf.read(self.one, "a")
        self.shelf.under(self.one, "")
        self.shelf.write(self.other, "a", 1)
        self.assert_same(self.shelf.read(self.one, "a"), None)

    def test_a_dealings_own_name_again(self):
        for value in [1, 2, None, 2]:
            self.shelf.write(self.one, "a", value)
        self.assert_same(self.shelf.made(self.one), 4)
        self.assert_refused(Taken, self.shelf, self.shelf.write, self.other, "a", 2)

    def test_the_dealing_goes_on_behind_taken(self):
        self.shelf.write(self.one, "a", 1)
        self.shelf.write(self.other, "b", 5)
        self.assert_refused(Taken, self.shelf, self.shelf.write, self.other, "a", 2)
        self.assert_same(self.shelf.ended(self.other), "open")
        self.assert_same(self.shelf.read(self.other, "a"), None)
        self.assert_same(self.shelf.read(self.other, "b"), 5)
        self.shelf.write(self.other, "c", 6)
        self.assert_same(self.shelf.made(self.other), 2)
        self.shelf.back(self.other, 1)
        self.assert_same(self.shelf.keep(self.other), 0)
        self.assert_same(self.shelf.value("b"), 5)

    def test_no_longer_taken_once_taken_back(self):
        self.shelf.write(self.one, "b", 1)
        self.shelf.write(self.one, "a", 1)
        self.shelf.back(self.one, 1)
        self.shelf.write(self.other, "a", 2)
        self.assert_refused(Taken, self.shelf, self.shelf.write, self.other, "b", 2)
        self.assert_refused(Taken, self.shelf, self.shelf.write, self.one, "a", 2)

    def test_still_taken_while_one_of_two_writes_stands(self):
        self.shelf.write(self.one, "a", 1)
        self.shelf.write(self.one, "a", 2)
        self.shelf.back(self.one, 1)
        self.assert_refused(Taken, self.shelf, self.shelf.write, self.other, "a", 2)
        self.shelf.back(self.one, 0)
        self.shelf.write(self.other, "a", 3)

    def test_no_longer_taken_once_dropped(self):
        self.shelf.write(self.one, "a", 1)
        self.assert_same(self.shelf.drop(self.one), None)
        self.shelf.write(self.other, "a", 2)
        self.assert_same(self.shelf.read(self.other, "a"), 2)

    def test_no_longer_taken_but_late_once_kept(self):
        self.shelf.write(self.one, "a", 1)
        self.shelf.keep(self.one)
        self.assert_refused(Late, self.shelf, self.shelf.write, self.other, "a", 2)
        third = self.shelf.begin()
        self.shelf.write(third, "a", 2)

    def test_no_longer_taken_once_refused_with_crossed(self):
        shelf = self.shelf
        shelf.write(self.one, "a", 1)
        shelf.read(self.one, "b")
        shelf.read(self.other, "a")
        shelf.write(self.other, "b", 1)
        shelf.keep(self.other)
        third = shelf.begin()
        self.assert_refused(Taken, shelf, shelf.write, third, "a", 3)
        self.assert_crossed(shelf, self.one)
        shelf.write(third, "a", 3)
        self.assert_same(shelf.keep(third), 1)
        self.assert_same(shelf.versions("a"), [(2, 3)])


class TooLate(Case):
    def test_late_behind_one_that_kept_the_name_since_the_start(self):
        shelf = Shelf()
        number = shelf.begin()
        put(shelf, a=1)
        self.assert_refused(Late, shelf, shelf.write, number, "a", 2)
        self.assert_refused(Late, shelf, shelf.write, number, "a", None)
        shelf.write(number, "b", 2)
        self.assert_same(shelf.read(number, "a"), None)
        self.assert_same(shelf.ended(number), "open")
        self.assert_same(shelf.keep(number), 0)
        self.assert_same(shelf.value("a"), 1)
        self.assert_same(shelf.value("b"), 2)

    def test_late_behind_a_kept_none(self):
        shelf = Shelf()
        number = shelf.begin()
        put(shelf, a=None)
        self.assert_refused(Late, shelf, shelf.write, number, "a", 2)

    def test_not_late_behind_a_version_as_old_as_the_start(self):
        shelf = Shelf()
        put(shelf, a=1)
        number = shelf.begin()
        shelf.write(number, "a", 2)
        self.assert_same(shelf.keep(number), 1)
        self.assert_same(shelf.versions("a"), [(1, 1), (2, 2)])

    def test_not_late_where_another_name_was_kept_or_the_write_taken_back(self):
        shelf = Shelf()
        number, other = shelf.begin(), shelf.begin()
        shelf.write(other, "a", 1)
        shelf.write(other, "b", 1)
        shelf.back(other, 0)
        shelf.write(other, "c", 1)
        shelf.keep(other)
        shelf.write(number, "a", 2)
        shelf.write(number, "b", 2)
        self.assert_refused(Late, shelf, shelf.write, number, "c", 2)

    def test_late_behind_an_old_version_and_a_new_one(self):
        shelf = Shelf()
        put(shelf, a=1)
        number = shelf.begin()
        put(shelf, a=2)
        self.assert_refused(Late, shelf, shelf.write, number, "a", 3)
        self.assert_same(shelf.read(number, "a"), 1)

    def test_late_for_a_name_that_it_had_written_and_taken_back(self):
        shelf = Shelf()
        number = shelf.begin()
        shelf.write(number, "a", 1)
        shelf.back(number, 0)
        put(shelf, a=2)
        self.assert_refused(Late, shelf, shelf.write, number, "a", 3)

    def test_taken_comes_ahead_of_late(self):
        shelf = Shelf()
        number = shelf.begin()
        put(shelf, a=1)
        third = shelf.begin()
        shelf.write(third, "a", 2)
        self.assert_refused(Taken, shelf, shelf.write, number, "a", 3)
        shelf.back(third, 0)
        self.assert_refused(Late, shelf, shelf.write, number, "a", 3)


class TakingBack(Case):
    def setUp(self):
        self.shelf = Shelf()
        self.number = self.shelf.begin()
        for name, value in [("a", 1), ("b", 2), ("a", 3), ("c", 4)]:
            self.shelf.write(self.number, name, value)

    def seen(self):
        return [self.shelf.read(self.number, name) for name in ["a", "b", "c"]]

    def test_how_many_stand(self):
        self.assert_same(self.shelf.made(self.shelf.begin()), 0)
        self.assert_same(self.shelf.made(self.number), 4)

    def test_to_each_number_at_once(self):
        wanted = [[None, None, None], [1, None, None], [1, 2, None], [3, 2, None], [3, 2, 4]]
        for many in range(5):
            self.setUp()
            self.assert_same(self.shelf.back(self.number, many), None)
            self.assert_same(self.shelf.made(self.number), many)
            self.assert_same(self.seen(), wanted[many])

    def test_step_by_step(self):
        for many, wanted in [(3, [3, 2, None]), (2, [1, 2, None]), (0, [None, None, None])]:
            self.shelf.back(self.number, many)
            self.assert_same(self.seen(), wanted)
            self.assert_same(self.shelf.made(self.number), many)

    def test_as_many_as_stand_is_a_deed_all_the_same(self):
        before = self.shelf.deeds(self.number)
        self.shelf.back(self.number, 4)
        self.assert_same(self.shelf.made(self.number), 4)
        self.assert_same(self.shelf.deeds(self.number), before + [("back", 4)])
        self.shelf.back(self.number, 0)
        self.shelf.back(self.number, 0)
        self.assert_same(self.shelf.deeds(self.number), before + [("back", 4), ("back", 0), ("back", 0)])

    def test_one_more_than_stand_and_below_nought(self):
        for many in [5, 6, -1, -4, 10**5000]:
            self.assert_refused(NoMark, self.shelf, self.shelf.back, self.number, many)
        self.shelf.back(self.number, 2)
        for many in [3, 4]:
            self.assert_refused(NoMark, self.shelf, self.shelf.back, self.number, many)
        self.shelf.back(self.number, 0)
        self.assert_refused(NoMark, self.shelf, self.shelf.back, self.number, 1)

    def test_true_and_false_are_no_numbers(self):
        self.assert_refused(NoMark, self.shelf, self.shelf.back, self.number, True)
        self.assert_refused(NoMark, self.shelf, self.shelf.back, self.number, False)

    def test_the_second_write_to_a_name_taken_back(self):
        self.shelf.back(self.number, 2)
        self.assert_same(self.shelf.read(self.number, "a"), 1)
        self.shelf.keep(self.number)
        self.assert_same(self.shelf.value("a"), 1)

    def test_writing_on_behind_it(self):
        self.shelf.back(self.number, 1)
        self.shelf.write(self.number, "c", 9)
        self.assert_same(self.seen(), [1, None, 9])
        self.assert_same(self.shelf.made(self.number), 2)
        self.shelf.back(self.number, 1)
        self.assert_same(self.seen(), [1, None, None])

    def test_a_kept_value_comes_back(self):
        put(self.shelf, x=7)
        number = self.shelf.begin()
        self.shelf.write(number, "x", None)
        self.shelf.write(number, "x", 8)
        self.shelf.back(number, 1)
        self.assert_same(self.shelf.read(number, "x"), None)
        self.shelf.back(number, 0)
        self.assert_same(self.shelf.read(number, "x"), 7)

    def test_what_was_read_stays_read(self):
        self.shelf.read(self.number, "a")
        self.shelf.under(self.number, "")
        deeds = self.shelf.deeds(self.number)
        self.shelf.back(self.number, 0)
        self.assert_same(self.shelf.deeds(self.number), deeds + [("back", 0)])

    def test_each_dealing_takes_back_its_own_writes_only(self):
        other = self.shelf.begin()
        self.shelf.write(other, "x", 1)
        self.shelf.back(self.number, 0)
        self.assert_same(self.shelf.made(other), 1)
        self.assert_same(self.shelf.read(other, "x"), 1)


class Dropping(Case):
    def test_it_ends_the_dealing_and_changes_nothing_else(self):
        shelf = Shelf()
        put(shelf, a=1)
        number = shelf.begin()
        shelf.write(number, "a", 2)
        shelf.read(number, "b")
        self.assert_same(shelf.drop(number), None)
        self.assert_same(shelf.ended(number), "dropped")
        self.assert_same(shelf.order(), [0])
        self.assert_same(shelf.moment(), 1)
        self.assert_same(shelf.versions("a"), [(1, 1)])
        self.assert_same(shelf.deeds(number), [("write", "a", 2), ("read", "b", None)])

    def test_what_it_looked_at_and_wrote_binds_nobody(self):
        shelf = Shelf()
        one, other = shelf.begin(), shelf.begin()
        shelf.read(one, "a")
        shelf.write(one, "b", 1)
        shelf.read(other, "b")
        shelf.write(other, "a", 1)
        shelf.drop(one)
        self.assert_same(shelf.keep(other), 0)
        self.assert_same(shelf.order(), [other])


if __name__ == "__main__":
    unittest.main()
