"""Point 2, what point 15 says of True and False, and keptrow/names.py in the interface."""

import inspect
import sys
import unittest

from keptrow import names
from keptrow.names import is_head, is_name, is_under, is_value

GOOD_SIGNS = (
    [chr(n) for n in range(ord("a"), ord("z") + 1)]
    + [chr(n) for n in range(ord("0"), ord("9") + 1)]
    + ["."]
)
CAPITALS = [chr(n) for n in range(ord("A"), ord("Z") + 1)]
BESIDE_THE_RANGES = ["`", "{", "/", ":", "-"]
BLANKS = [" ", "\n", "\r", "\t", "\v", "\f", "\0", "\x1c", "\x85", "\xa0", "\u2028", "\ufeff"]
OTHER_ASCII = ["_", ",", ";", "+", "*", "%", "@", "[", "]", "|", "}", "~", "!", "\"", "'", "\\", "\x7f"]
BEYOND_ASCII = [
    "\u00e9", "\u00df", "\u00aa", "\u0131", "\u017f", "\u0430", "\u03b1", "\uff41",  # letters
    "\u00b2", "\u00bd", "\u0663", "\u0967", "\uff11", "\u2460", "\U0001d7d8",  # figures
    "\uff0e", "\u3002", "\u00b7", "\u2024",  # points
    "\u0301", "\U0001f600", "\ud800",
]
WRONG_SIGNS = CAPITALS + BESIDE_THE_RANGES + BLANKS + OTHER_ASCII + BEYOND_ASCII

GOOD_NAMES = [
    "a", "z", "0", "9", ".", "..", "...", "a.b", ".a", "a.", "0.0", "007", "none", "true",
    "ab", "a1", "1a", "abcdefghijk", "abcdefghijkl", "mnopqrstuvwx", "yz0123456789", "............",
]
TOO_LONG = ["abcdefghijklm", ".............", "0123456789012", "a" * 14, "a" * 24, "a" * 100000]
NO_TEXTS = [
    0, 1, -1, 7, 12, 10**30, -(10**30), 10**1000, True, False, None,
    [], ["a"], ["a", "b"], [""], [["a"]], [1], [None],
    (), ("a",), ("a", "b"), ("",), (("a",),), (1,), (None,),
]


def spoiled(sign):
    """Texts with the wrong sign at the beginning, in the middle, at the end, and alone."""
    return [sign, sign + "ab", "a" + sign + "b", "ab" + sign, sign + "a", "a" + sign, "ab" + sign + "cd"]


class Checks(unittest.TestCase):
    def assert_told(self, check, thing, wanted):
        with self.subTest(check=check.__name__, thing=repr(thing)[:60]):
            self.assertIs(check(thing), wanted)


class Names(Checks):
    def test_good_names(self):
        for text in GOOD_NAMES:
            self.assert_told(is_name, text, True)

    def test_the_empty_text_is_no_name(self):
        self.assert_told(is_name, "", False)

    def test_lengths(self):
        for sign in GOOD_SIGNS:
            for length in range(0, 30):
                self.assert_told(is_name, sign * length, 1 <= length <= 12)

    def test_too_long(self):
        for text in TOO_LONG:
            self.assert_told(is_name, text, False)

    def test_each_good_sign_in_each_place(self):
        for sign in GOOD_SIGNS:
            for text in spoiled(sign):
                self.assert_told(is_name, text, True)

    def test_each_wrong_sign_in_each_place(self):
        for sign in WRONG_SIGNS:
            for text in spoiled(sign):
                self.assert_told(is_name, text, False)

    def test_a_wrong_sign_in_each_place_of_a_longest_name(self):
        for sign in WRONG_SIGNS:
            for at in range(12):
                text = "abcdefghijkl"[:at] + sign + "abcdefghijkl"[at + 1:]
                self.assert_told(is_name, text, False)

    def test_a_line_end_behind_a_good_name(self):
        for text in GOOD_NAMES:
            for end in ["\n", "\r", "\r\n", "\n\n"]:
                self.assert_told(is_name, text + end, False)

    def test_of_all_signs_just_these_may_stand(self):
        found = [chr(n) for n in range(sys.maxunicode + 1) if is_name(chr(n))]
        self.assertEqual(found, sorted(GOOD_SIGNS))

    def test_what_is_no_text(self):
        for thing in NO_TEXTS:
            self.assert_told(is_name, thing, False)


class Heads(Checks):
    def test_each_name_is_a_head(self):
        for text in GOOD_NAMES:
            self.assert_told(is_head, text, True)

    def test_the_empty_text_is_a_head(self):
        self.assert_told(is_head, "", True)

    def test_lengths(self):
        for sign in GOOD_SIGNS:
            for length in range(0, 30):
                self.assert_told(is_head, sign * length, length <= 12)

    def test_too_long(self):
        for text in TOO_LONG:
            self.assert_told(is_head, text, False)

    def test_each_good_sign_in_each_place(self):
        for sign in GOOD_SIGNS:
            for text in spoiled(sign):
                self.assert_told(is_head, text, True)

    def test_each_wrong_sign_in_each_place(self):
        for sign in WRONG_SIGNS:
            for text in spoiled(sign):
                self.assert_told(is_head, text, False)

    def test_a_wrong_sign_in_each_place_of_a_longest_head(self):
        for sign in WRONG_SIGNS:
            for at in range(12):
                text = "abcdefghijkl"[:at] + sign + "abcdefghijkl"[at + 1:]
                self.assert_told(is_head, text, False)

    def test_a_line_end_behind_a_good_head(self):
        for text in [""] + GOOD_NAMES:
            for end in ["\n", "\r", "\r\n", "\n\n"]:
                self.assert_told(is_head, text + end, False)

    def test_of_all_signs_just_these_may_stand(self):
        found = [chr(n) for n in range(sys.maxunicode + 1) if is_head(chr(n))]
        self.assertEqual(found, sorted(GOOD_SIGNS))

    def test_what_is_no_text(self):
        for thing in NO_TEXTS:
            self.assert_told(is_head, thing, False)


class Values(Checks):
    def test_whole_numbers_within_the_bounds(self):
        for number in [0, 1, -1, 2, -2, 255, 2**31, -(2**31), 2**63, -(2**63), 2**64, 10**15]:
            self.assert_told(is_value, number, True)

    def test_the_bounds_are_values(self):
        for number in [10**30, -(10**30), 10**30 - 1, -(10**30) + 1]:
            self.assert_told(is_value, number, True)

    def test_beyond_the_bounds(self):
        for number in [10**30 + 1, -(10**30) - 1, 10**31, -(10**31), 10**1000, -(10**1000)]:
            self.assert_told(is_value, number, False)

    def test_none_stands_for_no_value(self):
        self.assert_told(is_value, None, True)

    def test_true_and_false_are_no_whole_numbers(self):
        self.assert_told(is_value, True, False)
        self.assert_told(is_value, False, False)

    def test_texts(self):
        for text in ["", "0", "1", "-1", "10", " 1", "1\n", "a", "none", "None", "True", "\u0663"]:
            self.assert_told(is_value, text, False)

    def test_lists_and_tuples(self):
        for thing in [[], [0], [1, 2], [None], [[]], (), (0,), (1, 2), (None,), ((),)]:
            self.assert_told(is_value, thing, False)


class Under(unittest.TestCase):
    def assert_under(self, name, head, wanted):
        with self.subTest(name=name, head=head):
            self.assertIs(is_under(name, head), wanted)

    def test_each_name_under_itself_and_under_the_empty_head(self):
        for name in GOOD_NAMES:
            self.assert_under(name, name, True)
            self.assert_under(name, "", True)

    def test_under_each_beginning(self):
        for name in GOOD_NAMES:
            for length in range(len(name)):
                self.assert_under(name, name[:length], True)

    def test_an_end_only(self):
        for length in range(1, 12):
            self.assert_under("abcdefghijkl", "abcdefghijkl"[length:], False)
        self.assert_under("a.b", ".b", False)
        self.assert_under("a.b", "b", False)

    def test_a_middle_only(self):
        for first in range(1, 11):
            for last in range(first + 1, 12):
                self.assert_under("abcdefghijkl", "abcdefghijkl"[first:last], False)
        self.assert_under("a.b", ".", False)

    def test_a_head_longer_than_the_name(self):
        for name, head in [("a", "ab"), ("a", "a."), ("a", "aa"), (".", ".."), ("abcdefghijk", "abcdefghijkl")]:
            self.assert_under(name, head, False)

    def test_a_head_that_differs_in_one_sign(self):
        for length in range(1, 13):
            for at in range(length):
                head = "abcdefghijkl"[:at] + "z" + "abcdefghijkl"[at + 1:length]
                self.assert_under("abcdefghijkl", head, False)

    def test_a_point_is_a_sign_like_any_other(self):
        self.assert_under("a.b", "a.", True)
        self.assert_under("ab", "a.", False)
        self.assert_under("ab", "a", True)
        self.assert_under("a", ".", False)
        self.assert_under("..", ".", True)

    def test_the_same_signs_in_another_order(self):
        self.assert_under("ab", "ba", False)
        self.assert_under("aab", "aba", False)

    def test_a_beginning_that_comes_again(self):
        self.assert_under("abab", "ab", True)
        self.assert_under("abab", "ba", False)
        self.assert_under("aaaa", "aa", True)


class Interface(unittest.TestCase):
    def test_names_and_arguments(self):
        wanted = {
            "is_name": ["thing"], "is_head": ["thing"], "is_value": ["thing"], "is_under": ["name", "head"],
        }
        for word in wanted:
            with self.subTest(word):
                function = getattr(names, word)
                self.assertEqual(list(inspect.signature(function).parameters), wanted[word])
                self.assertEqual(function.__module__, "keptrow.names")

    def test_arguments_by_keyword(self):
        self.assertIs(is_name(thing="a"), True)
        self.assertIs(is_head(thing=""), True)
        self.assertIs(is_value(thing=0), True)
        self.assertIs(is_under(name="a", head="b"), False)

    def test_lists_that_are_handed_in_stay_as_they_are(self):
        for check in [is_name, is_head, is_value]:
            things = ["a", 1, None, ["b"]]
            check(things)
            self.assertEqual(things, ["a", 1, None, ["b"]])


if __name__ == "__main__":
    unittest.main()
