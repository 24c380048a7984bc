"""Points 3, 4 and 5: dealings begin and end, and read names and heads."""

import unittest

from keptrow.shelf import Shelf
from helpers import Case, put


class Beginning(Case):
    def test_a_new_shelf(self):
        shelf = Shelf()
        self.assert_same(shelf.moment(), 0)
        self.assert_same(shelf.order(), [])
        self.assert_same(shelf.value("a"), None)
        self.assert_same(shelf.versions("a"), [])
        self.assert_same(shelf.sweep(), 0)

    def test_numbered_from_nought_as_they_begin(self):
        shelf = Shelf()
        self.assert_same([shelf.begin() for _ in range(4)], [0, 1, 2, 3])
        shelf.drop(1)
        shelf.keep(3)
        self.assert_same(shelf.begin(), 4)

    def test_open_until_kept_or_dropped(self):
        shelf = Shelf()
        for number in range(3):
            shelf.begin()
            self.assert_same(shelf.ended(number), "open")
        shelf.keep(0)
        shelf.drop(1)
        self.assert_same([shelf.ended(number) for number in range(3)], ["kept", "dropped", "open"])

    def test_the_moment_counts_the_kept_ones_only(self):
        shelf = Shelf()
        for _ in range(5):
            shelf.begin()
        self.assert_same(shelf.moment(), 0)
        shelf.keep(3)
        self.assert_same(shelf.moment(), 1)
        shelf.drop(0)
        self.assert_same(shelf.moment(), 1)
        shelf.keep(1)
        self.assert_same(shelf.moment(), 2)

    def test_two_shelves_have_nothing_in_common(self):
        one, other = Shelf(), Shelf()
        put(one, a=1)
        self.assert_same(other.begin(), 0)
        self.assert_same(other.read(0, "a"), None)
        other.write(0, "a", 2)
        self.assert_same(one.value("a"), 1)
        self.assert_same(other.moment(), 0)


class Names(Case):
    def test_at_first_no_name_has_a_value(self):
        shelf = Shelf()
        number = shelf.begin()
        for name in ["a", ".", "0", "abcdefghijkl"]:
            self.assert_same(shelf.read(number, name), None)

    def test_own_writes_are_seen_at_once_by_the_dealing_alone(self):
        shelf = Shelf()
        one, other = shelf.begin(), shelf.begin()
        shelf.write(one, "a", 5)
        self.assert_same(shelf.read(one, "a"), 5)
        self.assert_same(shelf.read(other, "a"), None)
        self.assert_same(shelf.value("a"), None)

    def test_the_last_of_the_own_writes_is_told(self):
        shelf = Shelf()
        number = shelf.begin()
        for value in [5, -7, 0, 10**30, -(10**30)]:
            shelf.write(number, "a", value)
            shelf.write(number, "b", 1)
            self.assert_same(shelf.read(number, "a"), value)

    def test_an_own_write_goes_before_a_kept_value(self):
        shelf = Shelf()
        put(shelf, a=1)
        number = shelf.begin()
        self.assert_same(shelf.read(number, "a"), 1)
        shelf.write(number, "a", 2)
        self.assert_same(shelf.read(number, "a"), 2)

    def test_taken_away_by_an_own_none(self):
        shelf = Shelf()
        put(shelf, a=1)
        number = shelf.begin()
        shelf.write(number, "a", None)
        self.assert_same(shelf.read(number, "a"), None)
        shelf.write(number, "a", 3)
        shelf.write(number, "a", None)
        self.assert_same(shelf.read(number, "a"), None)

    def test_taken_away_by_a_kept_none(self):
        shelf = Shelf()
        put(shelf, a=1)
        early = shelf.begin()
        put(shelf, a=None)
        late = shelf.begin()
        self.assert_same(shelf.read(early, "a"), 1)
        self.assert_same(shelf.read(late, "a"), None)

    def test_the_values_at_the_start_while_others_keep(self):
        shelf = Shelf()
        readers = [shelf.begin()]
        for value in range(1, 6):
            put(shelf, a=value)
            readers.append(shelf.begin())
        for _ in range(2):
            self.assert_same([shelf.read(number, "a") for number in readers], [None, 1, 2, 3, 4, 5])

    def test_the_newest_version_may_be_much_older_than_the_start(self):
        shelf = Shelf()
        put(shelf, a=1)
        for value in range(5):
            put(shelf, b=value)
        number = shelf.begin()
        put(shelf, a=2)
        self.assert_same(shelf.versions("a"), [(1, 1), (7, 2)])
        self.assert_same(shelf.read(number, "a"), 1)
        self.assert_same(shelf.read(shelf.begin(), "a"), 2)

    def test_between_versions(self):
        shelf = Shelf()
        readers = []
        for value in range(4):
            put(shelf, a=value)
            readers.append(shelf.begin())
            put(shelf, b=value)
            readers.append(shelf.begin())
        self.assert_same([shelf.read(number, "a") for number in readers], [0, 0, 1, 1, 2, 2, 3, 3])
        self.assert_same([shelf.read(number, "b") for number in readers], [None, 0, 0, 1, 1, 2, 2, 3])

    def test_what_is_dropped_is_seen_by_nobody(self):
        shelf = Shelf()
        number = shelf.begin()
        shelf.write(number, "a", 1)
        shelf.drop(number)
        later = shelf.begin()
        self.assert_same(shelf.read(later, "a"), None)
        self.assert_same(shelf.under(later, ""), [])


class Heads(Case):
    def setUp(self):
        self.shelf = Shelf()

    def test_an_empty_shelf(self):
        number = self.shelf.begin()
        for head in ["", "a", "abcdefghijkl"]:
            self.assert_same(self.shelf.under(number, head), [])

    def test_the_empty_head_a_whole_name_and_one_with_nothing(self):
        number = self.shelf.begin()
        for name, value in [("b", 1), ("a.b", 2), ("a", 3)]:
            self.shelf.write(number, name, value)
        self.assert_same(self.shelf.under(number, ""), [("a", 3), ("a.b", 2), ("b", 1)])
        self.assert_same(self.shelf.under(number, "a.b"), [("a.b", 2)])
        self.assert_same(self.shelf.under(number, "a"), [("a", 3), ("a.b", 2)])
        self.assert_same(self.shelf.under(number, "a."), [("a.b", 2)])
        self.assert_same(self.shelf.under(number, "b."), [])
        self.assert_same(self.shelf.under(number, "c"), [])
        self.assert_same(self.shelf.under(number, ".b"), [])

    def test_the_same_of_kept_values(self):
        maker = self.shelf.begin()
        for name, value in [("b", 1), ("a.b", 2), ("a", 3)]:
            self.shelf.write(maker, name, value)
        self.shelf.keep(maker)
        number = self.shelf.begin()
        self.assert_same(self.shelf.under(number, ""), [("a", 3), ("a.b", 2), ("b", 1)])
        self.assert_same(self.shelf.under(number, "a.b"), [("a.b", 2)])
        self.assert_same(self.shelf.under(number, "a."), [("a.b", 2)])
        self.assert_same(self.shelf.under(number, "b"), [("b", 1)])
        self.assert_same(self.shelf.under(number, "c"), [])
        self.assert_same(self.shelf.under(number, ".b"), [])

    def test_pythons_order_of_texts(self):
        rising = [".", "..", ".a", "0", "00", "1", "10", "2", "9.", "9a", "a", "a.", "a.a", "a0", "aa", "ab", "b", "z."]
        self.assertEqual(rising, sorted(rising))
        maker = self.shelf.begin()
        for name in rising[::2][::-1]:
            self.shelf.write(maker, name, 1)
        self.shelf.keep(maker)
        number = self.shelf.begin()
        for name in rising[1::2][::-1]:
            self.shelf.write(number, name, 2)
        wanted = [(name, 1 + at % 2) for at, name in enumerate(rising)]
        self.assert_same(self.shelf.under(number, ""), wanted)
        self.assert_same(self.shelf.under(number, "a"), [pair for pair in wanted if pair[0][0] == "a"])

    def test_own_writes_go_before_kept_values(self):
        put(self.shelf, a=1, ab=2, b=3)
        number = self.shelf.begin()
        self.shelf.write(number, "ab", 5)
        self.shelf.write(number, "ac", 6)
        self.shelf.write(number, "b", None)
        self.shelf.write(number, "d", None)
        self.assert_same(self.shelf.under(number, ""), [("a", 1), ("ab", 5), ("ac", 6)])
        self.assert_same(self.shelf.under(number, "a"), [("a", 1), ("ab", 5), ("ac", 6)])
        self.assert_same(self.shelf.under(number, "b"), [])
        self.shelf.back(number, 1)
        self.assert_same(self.shelf.under(number, ""), [("a", 1), ("ab", 5), ("b", 3)])
        self.shelf.back(number, 0)
        self.assert_same(self.shelf.under(number, ""), [("a", 1), ("ab", 2), ("b", 3)])

    def test_nought_is_a_value(self):
        put(self.shelf, a=0)
        number = self.shelf.begin()
        self.shelf.write(number, "b", 0)
        self.assert_same(self.shelf.under(number, ""), [("a", 0), ("b", 0)])

    def test_the_values_at_the_start_while_others_keep(self):
        readers = [self.shelf.begin()]
        put(self.shelf, a=1)
        readers.append(self.shelf.begin())
        put(self.shelf, ab=2, a=3)
        readers.append(self.shelf.begin())
        put(self.shelf, a=None)
        readers.append(self.shelf.begin())
        wanted = [[], [("a", 1)], [("a", 3), ("ab", 2)], [("ab", 2)]]
        for head in ["", "a"]:
            self.assert_same([self.shelf.under(number, head) for number in readers], wanted)

    def test_others_open_writes_are_not_seen(self):
        one, other = self.shelf.begin(), self.shelf.begin()
        self.shelf.write(one, "a", 1)
        self.assert_same(self.shelf.under(other, ""), [])


if __name__ == "__main__":
    unittest.main()
