"""Point 55: the widths of characters and strings."""

import unittest

from quirekiln.letters import advance, offsets, text_width
from texts import STRINGS, advance_of, some_strings, width_of

EVERY = [chr(number) for number in range(32, 127) if chr(number) != "%"] + ["\n"]


class Letters(unittest.TestCase):
    def test_point_55_each_character_at_size_1(self):
        units = {char: 2 for char in EVERY}
        units.update({char: 1 for char in [" ", ".", ",", "'", ":", ";", "!", "|", "i", "j", "l"]})
        units.update({char: 3 for char in ["m", "w", "M", "W", "@"]})
        units["\n"] = 0
        self.assertEqual(len(units), 95)
        self.assertEqual({char: advance(char, 1) for char in EVERY}, units)

    def test_point_55_each_size(self):
        for char in EVERY:
            for size in range(1, 21):
                self.assertEqual(advance(char, size), size * advance(char, 1), char)

    def test_point_55_examples(self):
        self.assertEqual([advance(char, 20) for char in "imx \n"], [20, 60, 40, 20, 0])
        self.assertEqual([advance(char, 3) for char in "IJL\"`-_"], [6] * 7)

    def test_point_55_strings(self):
        self.assertEqual(text_width("", 1), 0)
        self.assertEqual(text_width("", 20), 0)
        self.assertEqual(text_width("mill", 1), 6)
        self.assertEqual(text_width("a b\nc", 5), 35)
        self.assertEqual(text_width("\n\n\n", 20), 0)
        self.assertEqual(text_width("@" * 500, 20), 30000)

    def test_point_55_offsets(self):
        self.assertEqual(offsets("", 7), [0])
        self.assertEqual(offsets("mi x", 1), [0, 3, 4, 5, 7])
        self.assertEqual(offsets("mi x", 20), [0, 60, 80, 100, 140])
        self.assertEqual(offsets("a\nb", 2), [0, 4, 4, 8])

    def test_point_55_offsets_are_the_widths_of_the_beginnings(self):
        for string in STRINGS + some_strings(50, 40) + ["".join(EVERY)]:
            for size in [1, 2, 20]:
                found = offsets(string, size)
                self.assertEqual(len(found), len(string) + 1)
                for index in range(len(string) + 1):
                    self.assertEqual(found[index], text_width(string[:index], size))
                    self.assertEqual(found[index], width_of(string[:index], size))

    def test_point_55_the_model_of_the_tests_agrees(self):
        for char in EVERY:
            self.assertEqual(advance(char, 4), advance_of(char, 4), char)

    def test_point_3_each_list_is_a_new_one(self):
        for string in ["", "ab"]:
            kept = offsets(string, 2)
            offsets(string, 2).append(99)
            self.assertEqual(offsets(string, 2), kept)
            self.assertIsNot(offsets(string, 2), offsets(string, 2))

    def test_point_66_sizes_beyond_the_limit_raise_nothing(self):
        self.assertEqual((advance("a", 21), text_width("am", 100), offsets("a", 0)), (42, 500, [0, 0]))


if __name__ == "__main__":
    unittest.main()
