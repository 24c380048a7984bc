"""Point 15, as far as it names the refusals, and keptrow/errors.py in the interface."""

import inspect
import unittest

from keptrow import errors

NINE = ["NoDealing", "Over", "NoName", "NoValue", "NoMark", "Taken", "Late", "Crossed", "Unlike"]


def class_called(name):
    return getattr(errors, name)


class Places(unittest.TestCase):
    def test_deal_error_stands_right_under_value_error(self):
        self.assertEqual(errors.DealError.__bases__, (ValueError,))

    def test_each_of_the_nine_stands_right_under_deal_error(self):
        for name in NINE:
            with self.subTest(name):
                self.assertEqual(class_called(name).__bases__, (errors.DealError,))
                self.assertTrue(issubclass(class_called(name), ValueError))

    def test_none_of_the_nine_stands_under_another(self):
        for low in NINE:
            for high in NINE:
                with self.subTest(low=low, high=high):
                    self.assertEqual(issubclass(class_called(low), class_called(high)), low == high)

    def test_deal_error_stands_under_none_of_the_nine(self):
        for name in NINE:
            with self.subTest(name):
                self.assertFalse(issubclass(errors.DealError, class_called(name)))


class Definitions(unittest.TestCase):
    def test_the_file_defines_these_classes_and_no_others(self):
        found = dict(inspect.getmembers(errors, inspect.isclass))
        self.assertEqual(sorted(found), sorted(["DealError"] + NINE))
        for name in found:
            with self.subTest(name):
                self.assertEqual(found[name].__module__, "keptrow.errors")
                self.assertEqual(found[name].__name__, name)


class Raising(unittest.TestCase):
    def test_each_is_caught_by_its_own_name_and_by_those_above(self):
        for name in ["DealError"] + NINE:
            for catcher in [class_called(name), errors.DealError, ValueError]:
                with self.subTest(name=name, catcher=catcher.__name__):
                    with self.assertRaises(catcher) as caught:
                        raise class_called(name)("some words")
                    self.assertIs(type(caught.exception), class_called(name))
                    self.assertEqual(str(caught.exception), "some words")

    def test_none_is_caught_by_another_name(self):
        for name in NINE:
            others = tuple(class_called(other) for other in NINE if other != name)
            with self.subTest(name):
                try:
                    raise class_called(name)("some words")
                except others:
                    self.fail(f"{name} was caught as another refusal")
                except errors.DealError:
                    pass


if __name__ == "__main__":
    unittest.main()
