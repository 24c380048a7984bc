"""Point 9's place in the row, and keptrow/places.py in the interface."""

import inspect
import itertools
import unittest

from keptrow import places
from keptrow.places import place_in
from helpers import Case


def place_by_words(row, ahead, behind):
    """The same, as slowly as the document says it."""
    place = len(row)
    for at in reversed(range(len(row))):
        if row[at] in behind:
            place = at
    for number in ahead:
        if number not in row[:place]:
            return None
    return place


class Places(Case):
    def assert_place(self, row, ahead, behind, wanted):
        with self.subTest(row=row, ahead=ahead, behind=behind):
            before = (list(row), list(ahead), list(behind))
            self.assert_same(place_in(row, ahead, behind), wanted)
            self.assertEqual((row, ahead, behind), before)

    def test_the_empty_row(self):
        self.assert_place([], [], [], 0)

    def test_nothing_ahead_and_nothing_behind_is_the_end(self):
        self.assert_place([0], [], [], 1)
        self.assert_place([4, 7], [], [], 2)
        self.assert_place([5, 3, 9, 1], [], [], 4)

    def test_the_documents_example(self):
        self.assert_place([4, 7], [4], [7], 1)
        self.assert_place([4, 7], [7], [4], None)

    def test_only_ahead_is_the_end(self):
        for ahead in [[4], [7], [4, 7], [7, 4], [7, 7, 4]]:
            self.assert_place([4, 7], ahead, [], 2)

    def test_only_behind_is_right_ahead_of_the_first(self):
        self.assert_place([4, 7], [], [4], 0)
        self.assert_place([4, 7], [], [7], 1)
        self.assert_place([4, 7], [], [7, 4], 0)
        self.assert_place([5, 3, 9, 1], [], [1, 9], 2)
        self.assert_place([5, 3, 9, 1], [], [1], 3)

    def test_the_place_nought(self):
        self.assert_place([0], [], [0], 0)
        self.assert_place([3, 0, 2], [], [2, 3], 0)
        self.assert_place([3, 0, 2], [0], [3], None)
        self.assert_place([3, 0, 2], [3], [3], None)

    def test_several_in_any_order_some_twice(self):
        self.assert_place([8, 6, 4, 2, 0], [6, 8, 6], [0, 2, 0, 2], 3)
        self.assert_place([8, 6, 4, 2, 0], [8, 6], [2, 0], 3)
        self.assert_place([8, 6, 4, 2, 0], [4, 4, 8], [2, 2], 3)
        self.assert_place([8, 6, 4, 2, 0], [8, 0], [4, 6], None)

    def test_one_in_both_lists(self):
        self.assert_place([4, 7], [4], [4], None)
        self.assert_place([4, 7], [7], [7], None)
        self.assert_place([4, 7, 9], [4, 7], [7, 9], None)
        self.assert_place([9], [9, 9], [9, 9], None)

    def test_ahead_right_before_the_place_right_at_it_and_beyond(self):
        row = [10, 11, 12, 13, 14]
        self.assert_place(row, [11], [12], 2)
        self.assert_place(row, [12], [12, 13], None)
        self.assert_place(row, [13], [12], None)
        self.assert_place(row, [14], [12], None)
        self.assert_place(row, [11, 14], [12], None)
        self.assert_place(row, [14, 11], [12], None)

    def test_numbers_below_nought_and_large_ones(self):
        self.assert_place([-1, -2, 10**40], [-1], [-2], 1)
        self.assert_place([-1, -2, 10**40], [-2], [10**40], 2)
        self.assert_place([-1, -2, 10**40], [10**40], [-1], None)

    def test_all_small_ones_against_the_words(self):
        for size in range(5):
            for row in itertools.permutations(range(size)):
                some = [list(few) for many in range(size + 1) for few in itertools.combinations(range(size), many)]
                for ahead in some:
                    for behind in some:
                        wanted = place_by_words(row, ahead, behind)
                        self.assert_place(list(row), ahead, behind, wanted)
                        self.assert_place(list(row), ahead[::-1] + ahead, behind[::-1] + behind, wanted)


class Interface(unittest.TestCase):
    def test_names_and_arguments(self):
        self.assertEqual(list(inspect.signature(place_in).parameters), ["row", "ahead", "behind"])
        self.assertEqual(places.place_in.__module__, "keptrow.places")
        self.assertEqual(place_in(row=[4, 7], ahead=[4], behind=[7]), 1)


if __name__ == "__main__":
    unittest.main()
