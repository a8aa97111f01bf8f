"""Points 3 and 4: numbers, words and strings, by themselves."""

import unittest

from quirekiln.kinds import is_number, is_string, is_within, is_word


class Numbers(unittest.TestCase):
    def test_point_3_true_and_false_are_not_numbers(self):
        for value in [0, 1, -1, 10 ** 30]:
            self.assertIs(is_number(value), True, value)
        for value in [True, False, None, "1", "", 1.0, (1,), [1], {}]:
            self.assertIs(is_number(value), False, value)

    def test_point_3_numbers_of_a_range(self):
        for value in [-2, 0, 1]:
            self.assertIs(is_within(value, -2, 1), True, value)
        for value in [-3, 2, True, False, None, "0", [0]]:
            self.assertIs(is_within(value, -2, 1), False, value)


class Strings(unittest.TestCase):
    def test_point_4_words(self):
        for value in ["a", "z", "az", "abcdefghijkl", "zzzzzzzzzzzz"]:
            self.assertIs(is_word(value), True, value)
        for value in ["", "abcdefghijklm", "A", "aB", "a b", "a1", "a-b", "a_b", " a", "a ", "a\n", "{", "`",
                      "\u00e4", None, True, 1, ["a"], ("a",), b"a"]:
            self.assertIs(is_word(value), False, value)

    def test_point_4_each_character(self):
        for number in range(300):
            char = chr(number)
            allowed = char == "\n" or (32 <= number <= 126 and char != "%")
            self.assertIs(is_string("a" + char + "b"), allowed, char)
            self.assertIs(is_word("a" + char + "b"), "a" <= char <= "z", char)

    def test_point_4_strings(self):
        for value in ["", "\n\n", " ", "~" * 1000]:
            self.assertIs(is_string(value), True, value)
        for value in [None, True, 5, b"a", ["a"], "\t", "\r\n", "\x7f"]:
            self.assertIs(is_string(value), False, value)


if __name__ == "__main__":
    unittest.main()
