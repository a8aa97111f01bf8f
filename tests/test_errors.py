"""Point 6: the error classes."""

import unittest

from quirekiln import errors

NAMES = [
    "NoNode", "WrongKind", "BadWord", "BadValue", "BadPlace", "TooDeep", "TooMany", "BadSelector",
]


class Errors(unittest.TestCase):
    def test_point_6_page_error_is_a_value_error(self):
        self.assertEqual(errors.PageError.__bases__, (ValueError,))

    def test_point_6_the_others_are_direct_subclasses_of_page_error(self):
        for name in NAMES:
            self.assertEqual(getattr(errors, name).__bases__, (errors.PageError,), name)

    def test_point_6_each_error_carries_its_value(self):
        values = [1, 0, -5, 10 ** 12, "", "marks", "two\nlines", None, True, ("part", 7)]
        for name in ["PageError"] + NAMES:
            for value in values:
                error = getattr(errors, name)(value)
                self.assertIs(error.value, value, name)
                self.assertIs(getattr(errors, name)(value=value).value, value, name)

    def test_point_6_the_parameter_is_required_and_the_only_one(self):
        for name in ["PageError"] + NAMES:
            self.assertRaises(TypeError, getattr(errors, name))
            self.assertRaises(TypeError, getattr(errors, name), 1, 2)

    def test_point_6_values_of_two_errors_are_their_own(self):
        first, second = errors.NoNode(3), errors.NoNode(4)
        self.assertEqual((first.value, second.value), (3, 4))

    def test_point_6_raised_errors_are_caught_by_each_of_their_classes(self):
        for name in NAMES:
            for caught in [getattr(errors, name), errors.PageError, ValueError]:
                with self.assertRaises(caught) as held:
                    raise getattr(errors, name)("word")
                self.assertEqual(held.exception.value, "word", name)

    def test_point_6_an_error_is_not_caught_as_another_one(self):
        for name in NAMES:
            for other in NAMES:
                same = issubclass(getattr(errors, name), getattr(errors, other))
                self.assertIs(same, name == other, (name, other))


if __name__ == "__main__":
    unittest.main()
