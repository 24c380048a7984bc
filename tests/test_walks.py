"""Point 14, and keptrow/walks.py in the interface."""

import copy
import inspect
import unittest

from keptrow import walks
from keptrow.errors import DealError, Unlike
from keptrow.shelf import Shelf
from keptrow.walks import walked
from helpers import Case, put


class Walks(Case):
    def assert_walked(self, rows, wanted):
        before = copy.deepcopy(rows)
        with self.subTest(rows=rows):
            self.assert_same(walked(rows), wanted)
            self.assert_same(rows, before)

    def assert_unlike(self, rows):
        before = copy.deepcopy(rows)
        with self.subTest(rows=rows):
            with self.assertRaises(DealError) as caught:
                walked(rows)
            self.assertIs(type(caught.exception), Unlike)
            self.assert_same(rows, before)

    def test_no_rows_and_rows_without_deeds(self):
        self.assert_walked([], [])
        self.assert_walked([[]], [])
        self.assert_walked([[], [], []], [])
        self.assert_walked([[], [("write", "a", 1)], []], [("a", 1)])

    def test_what_is_left_by_names(self):
        self.assert_walked([[("write", "b", 1), ("write", "a.", 2), ("write", "a", 3), ("write", "0", 4)]],
                           [("0", 4), ("a", 3), ("a.", 2), ("b", 1)])

    def test_the_last_write_to_a_name_is_left(self):
        self.assert_walked([[("write", "a", 1), ("write", "b", 2), ("write", "a", 3)]], [("a", 3), ("b", 2)])

    def test_a_name_left_with_none(self):
        self.assert_walked([[("write", "a", None)]], [])
        self.assert_walked([[("write", "a", 1), ("write", "a", None), ("write", "b", 0)]], [("b", 0)])
        self.assert_walked([[("write", "a", 1)], [("write", "a", None)]], [])
        self.assert_walked([[("write", "a", 1)], [("write", "a", None)], [("read", "a", None)]], [])
        self.assert_walked([[("write", "a", 1)], [("write", "a", None)], [("under", "", [])]], [])
        self.assert_walked([[("write", "a", None)], [("write", "a", 2)]], [("a", 2)])

    def test_readings_that_tell_the_same(self):
        self.assert_walked([[("read", "a", None), ("under", "", []), ("write", "a", 5), ("read", "a", 5),
                             ("under", "", [("a", 5)]), ("under", "a", [("a", 5)]), ("under", "b", [])]], [("a", 5)])

    def test_readings_of_names_that_tell_something_else(self):
        for told in [1, 0, -5, 6, 10**30]:
            self.assert_unlike([[("read", "a", told)]])
        for told in [None, 0, -5, 6, 10**30]:
            self.assert_unlike([[("write", "a", 5), ("read", "a", told)]])
            self.assert_unlike([[("write", "a", 5)], [("read", "a", told)]])
        self.assert_unlike([[("write", "a", 5), ("read", "b", 5)]])
        self.assert_unlike([[("write", "a", 0)], [("read", "a", None)]])
        self.assert_unlike([[("write", "a", None)], [("read", "a", 0)]])

    def test_true_and_false_are_no_whole_numbers(self):
        self.assert_unlike([[("write", "a", 1), ("read", "a", True)]])
        self.assert_unlike([[("write", "a", 0)], [("read", "a", False)]])
        self.assert_unlike([[("write", "a", 0)], [("under", "", [("a", False)])]])
        self.assert_unlike([[("write", "a", 2), ("write", "b", 1), ("under", "", [("a", 2), ("b", True)])]])

    def test_readings_of_heads_that_tell_something_else(self):
        first = [("write", "a", 1), ("write", "ab", 2), ("write", "b", 3)]
        right = [("a", 1), ("ab", 2)]
        wrong = [
            [], right[:1], right[1:], right[::-1], right + right[1:], right[:1] + right, right + [("b", 3)],
            [("a", 1), ("ab", 3)], [("a", 2), ("ab", 2)], [("a", 1), ("ac", 2)], [("a", 1), ("ab", None)],
            right + [("ac", None)],
        ]
        self.assert_walked([first, [("under", "a", right)]], [("a", 1), ("ab", 2), ("b", 3)])
        self.assert_walked([first + [("under", "a", right)]], [("a", 1), ("ab", 2), ("b", 3)])
        for pairs in wrong:
            self.assert_unlike([first, [("under", "a", pairs)]])
            self.assert_unlike([first + [("under", "a", pairs)]])
            self.assert_unlike([first[:1], first[1:] + [("under", "a", pairs)]])

    def test_several_dealings_upon_one_another(self):
        self.assert_walked([
            [("read", "a", None), ("write", "a", 1), ("write", "b", 2)],
            [("read", "a", 1), ("write", "a", 10), ("read", "a", 10), ("under", "", [("a", 10), ("b", 2)])],
            [("under", "", [("a", 10), ("b", 2)]), ("write", "b", None), ("write", "c", 3)],
            [("under", "", [("a", 10), ("c", 3)]), ("read", "b", None)],
        ], [("a", 10), ("c", 3)])

    def test_the_turn_of_the_rows_counts(self):
        one, other = [("write", "a", 1)], [("read", "a", 1)]
        self.assert_walked([one, other], [("a", 1)])
        self.assert_unlike([other, one])

    def test_a_wrong_reading_anywhere(self):
        rows = [[("write", "a", at), ("read", "a", at)] for at in range(5)]
        self.assert_walked(rows, [("a", 4)])
        for at in range(5):
            wrong = copy.deepcopy(rows)
            wrong[at].append(("read", "a", at + 1))
            self.assert_unlike(wrong)

    def test_a_wrong_reading_behind_which_all_is_taken_back(self):
        self.assert_unlike([[("write", "a", 1), ("read", "a", 2), ("back", 0)]])

    def test_back_to_some_and_to_nought(self):
        first = [("write", "a", 1), ("write", "b", 2), ("write", "a", 3)]
        wanted = [[], [("a", 1)], [("a", 1), ("b", 2)], [("a", 3), ("b", 2)]]
        for many in range(4):
            self.assert_walked([first + [("back", many)]], wanted[many])
            self.assert_walked([first + [("back", many), ("under", "", wanted[many])]], wanted[many])
            self.assert_walked([first + [("back", many)], [("under", "", wanted[many])]], wanted[many])
        self.assert_walked([[("back", 0)]], [])

    def test_reading_behind_back(self):
        self.assert_walked([
            [("write", "a", 1)],
            [("write", "a", 2), ("read", "a", 2), ("back", 0), ("read", "a", 1), ("write", "a", 3), ("write", "a", None),
             ("read", "a", None), ("back", 1), ("read", "a", 3)],
            [("read", "a", 3)],
        ], [("a", 3)])
        self.assert_unlike([[("write", "a", 1)], [("write", "a", 2), ("back", 0), ("read", "a", 2)]])
        self.assert_unlike([[("write", "a", 1)], [("write", "a", 2), ("back", 0), ("read", "a", None)]])

    def test_each_dealing_takes_back_its_own_writes_only(self):
        self.assert_walked([[("write", "a", 1)], [("write", "b", 1), ("back", 0)]], [("a", 1)])

    def test_what_a_write_refuses_is_not_looked_at(self):
        # On a shelf, of the two open ones the second one's write to a would be Taken, or Late behind a keep.
        shelf = Shelf()
        one, other = shelf.begin(), shelf.begin()
        shelf.write(one, "a", 1)
        rows = [shelf.deeds(one), [("write", "a", 2)], [("write", "a", 3)]]
        self.assert_walked(rows, [("a", 3)])
        shelf.keep(one)
        self.assertEqual(shelf.ended(other), "open")

    def test_the_bounds_of_values(self):
        self.assert_walked([[("write", "a", 10**30)], [("read", "a", 10**30), ("write", "b", -(10**30))]],
                           [("a", 10**30), ("b", -(10**30))])
        self.assert_unlike([[("write", "a", 10**30)], [("read", "a", 10**30 - 1)]])


class OfAShelf(Case):
    def values(self, shelf, names):
        return [(name, shelf.value(name)) for name in sorted(names) if shelf.value(name) is not None]

    def test_the_kept_ones_in_their_row(self):
        shelf = Shelf()
        put(shelf, a=1, b=2)
        reader = shelf.begin()
        put(shelf, a=None, ab=3)
        dropped = shelf.begin()
        shelf.write(dropped, "x", 9)
        shelf.drop(dropped)
        shelf.under(reader, "a")
        shelf.write(reader, "c", 4)
        shelf.write(reader, "d", 5)
        shelf.read(reader, "d")
        shelf.back(reader, 1)
        shelf.under(reader, "")
        self.assert_same(shelf.keep(reader), 1)
        rows = [shelf.deeds(number) for number in shelf.order()]
        self.assert_same(walked(rows), [("ab", 3), ("b", 2), ("c", 4)])
        self.assert_same(walked(rows), self.values(shelf, ["a", "ab", "b", "c", "d", "x"]))
        turned = [rows[0], rows[2], rows[1]]
        with self.assertRaises(Unlike):
            walked(turned)


class Interface(unittest.TestCase):
    def test_names_and_arguments(self):
        self.assertEqual(list(inspect.signature(walked).parameters), ["rows"])
        self.assertEqual(walks.walked.__module__, "keptrow.walks")
        self.assertEqual(walked(rows=[]), [])


if __name__ == "__main__":
    unittest.main()
