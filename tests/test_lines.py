"""Points 56 to 59: paragraphs, words, lines and places."""

import unittest
from itertools import product

from quirekiln.letters import text_width
from quirekiln.lines import break_lines, ends_paragraph, paragraphs, place_line, words
from texts import ALIGNS, STRINGS, lines_of, paragraphs_of, places_of, some_strings, words_of

ALL = STRINGS + some_strings(60, 40)
WIDTHS = [0, 1, 5, 8, 9, 10, 17, 40, 1000]


class Paragraphs(unittest.TestCase):
    def test_point_56_examples(self):
        expected = {
            "": [(0, 0)], "\n": [(0, 0), (1, 1)], "\n\n": [(0, 0), (1, 1), (2, 2)], "ab": [(0, 2)],
            "ab\n": [(0, 2), (3, 3)], "\nab": [(0, 0), (1, 3)], "a\n\nb c": [(0, 1), (2, 2), (3, 6)], "  ": [(0, 2)],
        }
        for string, found in expected.items():
            self.assertEqual(paragraphs(string), found, string)

    def test_point_56_one_more_than_newlines(self):
        for string in ALL:
            found = paragraphs(string)
            self.assertEqual(len(found), string.count("\n") + 1)
            self.assertEqual("\n".join(string[start:end] for start, end in found), string)
            self.assertEqual(found, paragraphs_of(string))


class Words(unittest.TestCase):
    def test_point_56_examples(self):
        string = " ab  c\nd. e "
        expected = {
            (0, 12): [(1, 3), (5, 6), (7, 9), (10, 11)],
            (2, 8): [(2, 3), (5, 6), (7, 8)],
            (2, 6): [(2, 3), (5, 6)],
            (8, 11): [(8, 9), (10, 11)],
            (1, 3): [(1, 3)],
            (0, 2): [(1, 2)],
        }
        for part in [(0, 0), (0, 1), (2, 2), (3, 5), (6, 7), (12, 12)]:
            expected[part] = []
        for (start, end), found in expected.items():
            self.assertEqual(words(string, start, end), found, (start, end))

    def test_point_56_no_words(self):
        for string in ["", " ", "\n", " \n \n\n  "]:
            self.assertEqual(words(string, 0, len(string)), [])

    def test_point_56_every_part_of_some_texts(self):
        for string in STRINGS[:18] + some_strings(20, 12):
            for start in range(len(string) + 1):
                for end in range(start, len(string) + 1):
                    self.assertEqual(words(string, start, end), words_of(string, start, end), (string, start, end))

    def test_point_66_indexes_beyond_the_text_raise_nothing(self):
        self.assertEqual(words("a b", 0, 9), [(0, 1), (2, 3)])
        self.assertEqual(words("a b", 5, 9), [])
        self.assertEqual(words("a b", -2, 1), [(0, 1)])


class Lines(unittest.TestCase):
    def test_point_57_texts_without_words(self):
        expected = {
            "": [(0, 0)], " ": [(0, 0)], "    ": [(0, 0)], "\n": [(0, 0), (1, 1)], "\n\n": [(0, 0), (1, 1), (2, 2)],
            "  \n \n": [(0, 0), (3, 3), (5, 5)],
        }
        for string, found in expected.items():
            for width in WIDTHS:
                self.assertEqual(break_lines(string, 2, width), found, string)

    def test_point_57_a_line_that_fits_exactly_and_one_that_is_wider_by_1(self):
        # "ab c" has 7 units, "ab c  de" has 13.
        for size in [1, 2, 20]:
            self.assertEqual(break_lines("ab c  de", size, 7 * size), [(0, 4), (6, 8)])
            self.assertEqual(break_lines("ab c  de", size, 7 * size - 1), [(0, 2), (3, 4), (6, 8)])
            self.assertEqual(break_lines("ab c  de", size, 13 * size), [(0, 8)])
            self.assertEqual(break_lines("ab c  de", size, 13 * size - 1), [(0, 4), (6, 8)])

    def test_point_57_the_spaces_between_words_count(self):
        self.assertEqual(break_lines("a  b", 1, 5), [(0, 1), (3, 4)])
        self.assertEqual(break_lines("a  b", 1, 6), [(0, 4)])

    def test_point_57_spaces_around_a_paragraph_and_between_lines_do_not_count(self):
        self.assertEqual(break_lines("   a b   ", 1, 5), [(3, 6)])
        self.assertEqual(break_lines("  a     b  \n  c ", 1, 2), [(2, 3), (8, 9), (14, 15)])

    def test_point_57_words_wider_than_the_width(self):
        self.assertEqual(break_lines("mmmm", 1, 5), [(0, 4)])
        self.assertEqual(break_lines("i mmmm i i", 1, 5), [(0, 1), (2, 6), (7, 10)])
        self.assertEqual(break_lines("mmmm mmmm", 1, 11), [(0, 4), (5, 9)])

    def test_point_57_a_width_of_0(self):
        self.assertEqual(break_lines("i i\n\ni", 1, 0), [(0, 1), (2, 3), (4, 4), (5, 6)])

    def test_point_57_paragraphs_are_broken_on_their_own(self):
        self.assertEqual(break_lines("a b\nc d\n\n e", 1, 1000), [(0, 3), (4, 7), (8, 8), (10, 11)])

    def test_point_57_many_texts_and_widths(self):
        for string, width in product(ALL, WIDTHS):
            for size in [1, 3]:
                expected = [line for line, paragraph in lines_of(string, size, width)]
                self.assertEqual(break_lines(string, size, width), expected, (string, width))

    def test_point_57_as_few_lines_as_the_greedy_rule_gives(self):
        # No word that begins a line would have fitted onto the line before it.
        for string, width in product(ALL, WIDTHS):
            lines = break_lines(string, 1, width)
            for before, line in zip(lines, lines[1:]):
                if "\n" not in string[before[1]:line[0]]:
                    first = words(string, *line)[0]
                    self.assertGreater(text_width(string[before[0]:first[1]], 1), width)

    def test_point_58_each_other_character_is_on_exactly_one_line(self):
        for string, width in product(ALL, WIDTHS):
            lines = break_lines(string, 2, width)
            self.assertEqual(lines, sorted(lines))
            counts = [0] * len(string)
            for start, end in lines:
                self.assertNotIn("\n", string[start:end])
                self.assertEqual(string[start:end], string[start:end].strip(" "))
                for index in range(start, end):
                    counts[index] += 1
            for char, count in zip(string, counts):
                self.assertIn(count, (0, 1) if char == " " else (0,) if char == "\n" else (1,))

    def test_point_66_a_text_of_500_characters(self):
        self.assertEqual(len(break_lines("a " * 250, 1, 0)), 250)
        self.assertEqual(break_lines("a " * 250, 20, 10 ** 9), [(0, 499)])
        self.assertEqual(len(break_lines("\n" * 500, 1, 5)), 501)
        self.assertEqual(break_lines("m" * 500, 1, 5), [(0, 500)])

    def test_point_3_each_list_is_a_new_one(self):
        string = "a b\nc"
        calls = [lambda: paragraphs(string), lambda: words(string, 0, 5), lambda: break_lines(string, 1, 2),
                 lambda: place_line(string, (0, 3), size=1, width=9, align="full")]
        for call in calls:
            kept = list(call())
            call().clear()
            self.assertEqual(call(), kept)
            self.assertEqual({found.__class__ for found in call()} <= {tuple, int}, True)


class EndsParagraph(unittest.TestCase):
    def test_point_58_examples(self):
        string = "aa bb  \n\n  \ncc"
        self.assertIs(ends_paragraph(string, (0, 2)), False)
        for line in [(3, 5), (0, 5), (8, 8), (9, 9), (12, 14)]:
            self.assertIs(ends_paragraph(string, line), True, line)

    def test_point_58_the_empty_text(self):
        self.assertIs(ends_paragraph("", (0, 0)), True)
        self.assertIs(ends_paragraph("   ", (0, 0)), True)

    def test_point_58_many_texts(self):
        for string, width in product(ALL, WIDTHS):
            for line, paragraph in lines_of(string, 1, width):
                expected = words_of(string, line[1], paragraph[1]) == []
                self.assertIs(ends_paragraph(string, line), expected, (string, line))


class Places(unittest.TestCase):
    def test_point_59_each_alignment(self):
        # "ab c" has 7 units; 3 are left over.
        string, line = "ab c d", (0, 4)
        self.assertEqual(place_line(string, line, size=1, width=10), [0, 2, 4, 5, 7])
        self.assertEqual(place_line(string, line, size=1, width=10, align="left"), [0, 2, 4, 5, 7])
        self.assertEqual(place_line(string, line, size=1, width=10, align="center"), [1, 3, 5, 6, 8])
        self.assertEqual(place_line(string, line, size=1, width=10, align="right"), [3, 5, 7, 8, 10])
        self.assertEqual(place_line(string, line, size=1, width=10, align="full"), [0, 2, 4, 8, 10])

    def test_point_59_a_line_wider_than_the_width(self):
        for align in ALIGNS:
            self.assertEqual(place_line("mmm x", (0, 3), size=2, width=5, align=align), [0, 6, 12, 18])
            self.assertEqual(place_line("m m x", (0, 3), size=1, width=6, align=align), [0, 3, 4, 7])
            self.assertEqual(place_line("m m x", (0, 3), size=1, width=7, align=align), [0, 3, 4, 7])

    def test_point_59_full_with_a_rest_that_does_not_divide_evenly(self):
        # "i i i i" has 7 units and 3 spaces.
        string, line = "i i i i mmmm", (0, 7)
        expected = {
            7: [0, 1, 2, 3, 4, 5, 6, 7], 8: [0, 1, 3, 4, 5, 6, 7, 8], 9: [0, 1, 3, 4, 6, 7, 8, 9],
            10: [0, 1, 3, 4, 6, 7, 9, 10], 11: [0, 1, 4, 5, 7, 8, 10, 11],
        }
        for width, places in expected.items():
            self.assertEqual(place_line(string, line, size=1, width=width, align="full"), places, width)

    def test_point_59_full_with_several_spaces_in_a_row(self):
        self.assertEqual(place_line("i   i mm", (0, 5), size=1, width=9, align="full"), [0, 1, 4, 6, 8, 9])

    def test_point_59_full_without_a_space(self):
        self.assertEqual(place_line("ii mm", (0, 2), size=1, width=9, align="full"), [0, 1, 2])

    def test_point_59_full_at_the_end_of_a_paragraph(self):
        for string in ["i i", "i i  ", "i i \nmm", "i i\n\n"]:
            self.assertEqual(place_line(string, (0, 3), size=1, width=9, align="full"), [0, 1, 2, 3], string)

    def test_point_59_a_line_without_characters(self):
        for align, place in {"left": 0, "center": 4, "right": 9, "full": 0}.items():
            self.assertEqual(place_line("\n", (1, 1), size=3, width=9, align=align), [place])
            self.assertEqual(place_line("", (0, 0), size=3, width=0, align=align), [0])

    def test_point_59_the_first_and_the_last_place(self):
        for string, width in product(ALL, WIDTHS):
            for line in break_lines(string, 2, width):
                inner = text_width(string[line[0]:line[1]], 2)
                rest = max(0, width - inner)
                found = {align: place_line(string, line, size=2, width=width, align=align) for align in ALIGNS}
                firsts = [found[align][0] for align in ALIGNS]
                self.assertEqual(firsts, [0, rest // 2, rest, 0])
                self.assertEqual(found["right"][-1], max(width, inner))
                if " " in string[line[0]:line[1]] and not ends_paragraph(string, line):
                    self.assertEqual(found["full"][-1], max(width, inner))
                for places in found.values():
                    self.assertEqual(len(places), line[1] - line[0] + 1)

    def test_point_59_many_texts(self):
        for string, width, align in product(ALL, WIDTHS, ALIGNS):
            for size in [1, 3]:
                for line, paragraph in lines_of(string, size, width):
                    found = place_line(string, line, size=size, width=width, align=align)
                    expected = places_of(string, line, paragraph, size, width, align)
                    self.assertEqual(found, expected, (string, line, width, align))


if __name__ == "__main__":
    unittest.main()
