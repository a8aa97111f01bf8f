"""Points 60 to 66: texts that are set."""

import random
import unittest
from itertools import product

from quirekiln.setting import Setting
from texts import ALIGNS, STRINGS, lines_of, paragraphs_of, places_of, some_strings, words_of

ALL = STRINGS + some_strings(25, 40, seed=2)
WIDTHS = [0, 9, 17, 40, 1000]


def settings(strings=ALL):
    """Settings of many texts, widths and alignments."""
    for number, (string, width, align) in enumerate(product(strings, WIDTHS, ALIGNS)):
        yield Setting(string, size=1 + number % 4, lead=number % 3, width=width, align=align)


class Model:
    """The answers of a setting, from its fields and the model of the lines."""

    def __init__(self, setting):
        self.string = setting.string
        self.height = setting.size + setting.lead
        self.lines = lines_of(setting.string, setting.size, setting.width)
        self.places = [
            places_of(setting.string, line, paragraph, setting.size, setting.width, setting.align)
            for line, paragraph in self.lines
        ]

    def ink_between(self, low, high):
        found = []
        for number, (line, paragraph) in enumerate(self.lines):
            for start, end in words_of(self.string, *line):
                first, last = max(start, low), min(end, high)
                if first < last:
                    x, behind = [self.places[number][index - line[0]] for index in (first, last)]
                    found.append((first, last, x, number * self.height, behind - x))
        return found

    def line_of(self, index):
        owner = [(start, end) for start, end in paragraphs_of(self.string) if start <= index <= end]
        assert len(owner) == 1
        numbers = [number for number, line in enumerate(self.lines) if line[1] == owner[0]]
        begun = [number for number in numbers if self.lines[number][0][0] <= index]
        return begun[-1] if begun else numbers[0]

    def caret(self, index):
        number = self.line_of(index)
        start, end = self.lines[number][0]
        if index < start:
            at = 0
        elif index >= end:
            at = -1
        else:
            at = index - start
        return (self.places[number][at], number * self.height)

    def index_near(self, x, y):
        number = min(max(y // self.height, 0), len(self.lines) - 1)
        start = self.lines[number][0][0]
        distances = [abs(place - x) for place in self.places[number]]
        return start + distances.index(min(distances))


class Fields(unittest.TestCase):
    def test_point_60_the_fields(self):
        setting = Setting("a b", size=5, lead=3, width=7, align="right")
        told = (setting.string, setting.size, setting.lead, setting.width, setting.align, setting.lines)
        self.assertEqual(told, ("a b", 5, 3, 7, "right", [(0, 1), (2, 3)]))

    def test_point_60_the_fields_that_are_not_given(self):
        setting = Setting("a", width=9)
        self.assertEqual((setting.size, setting.lead, setting.align), (2, 0, "left"))
        self.assertRaises(TypeError, Setting, "a")
        self.assertRaises(TypeError, Setting, "a", 2, 0, 9)

    def test_point_60_iteration_over_the_lines(self):
        for setting in settings():
            expected = [line for line, paragraph in lines_of(setting.string, setting.size, setting.width)]
            self.assertEqual(list(setting), expected)
            self.assertEqual([line for line in setting], setting.lines)

    def test_point_60_two_iterations_do_not_disturb_each_other(self):
        setting = Setting("a b c", width=0)
        pairs = [(first, second) for first in setting for second in setting]
        self.assertEqual(len(pairs), 9)

    def test_point_60_the_total_height(self):
        self.assertEqual(Setting("", width=5).total_height, 2)
        self.assertEqual(Setting("", size=20, lead=20, width=5).total_height, 40)
        self.assertEqual(Setting("a b\n\nc", size=3, width=0).total_height, 12)
        self.assertEqual(Setting("a b\n\nc", size=3, lead=4, width=0).total_height, 28)
        self.assertEqual(Setting("a b\n\nc", size=3, lead=4, width=99).total_height, 21)

    def test_point_60_the_places(self):
        for setting in settings():
            expected = Model(setting).places
            self.assertEqual([setting.places(number) for number in range(len(setting.lines))], expected)


class Ink(unittest.TestCase):
    def test_point_61_each_word(self):
        setting = Setting("ab  c\n\nd", size=2, lead=1, width=9)
        self.assertEqual(setting.ink(), [(0, 2, 0, 0, 8), (4, 5, 0, 3, 4), (7, 8, 0, 9, 4)])
        setting = Setting("ab  c d", size=1, width=12, align="full")
        self.assertEqual(setting.ink(), [(0, 2, 0, 0, 4), (4, 5, 6, 0, 2), (6, 7, 9, 0, 2)])
        setting = Setting("i i i mmmm", size=1, lead=2, width=12, align="full")
        self.assertEqual(setting.ink(), [(0, 1, 0, 0, 1), (2, 3, 6, 0, 1), (4, 5, 11, 0, 1), (6, 10, 0, 3, 12)])
        setting = Setting("ab c", size=1, width=10, align="center")
        self.assertEqual(setting.ink(), [(0, 2, 1, 0, 4), (3, 4, 6, 0, 2)])
        setting = Setting("mmm", size=1, width=5, align="right")
        self.assertEqual(setting.ink(), [(0, 3, 0, 0, 9)])

    def test_point_61_no_words(self):
        for string in ["", " ", "\n", "  \n  "]:
            self.assertEqual(Setting(string, width=5, align="right").ink(), [])

    def test_point_61_between_two_indexes(self):
        setting = Setting("abc  d\nef", size=1, lead=1, width=20)
        expected = {
            (0, 9): setting.ink(), (1, 2): [(1, 2, 2, 0, 2)], (0, 2): [(0, 2, 0, 0, 4)], (3, 5): [], (3, 4): [],
            (2, 6): [(2, 3, 4, 0, 2), (5, 6, 8, 0, 2)], (6, 7): [], (5, 8): [(5, 6, 8, 0, 2), (7, 8, 0, 2, 2)],
            (8, 9): [(8, 9, 2, 2, 2)], (4, 4): [], (1, 1): [], (9, 9): [], (0, 0): [],
        }
        for (low, high), ink in expected.items():
            self.assertEqual(setting.ink_between(low, high), ink, (low, high))

    def test_point_61_many_settings(self):
        for setting in settings():
            model = Model(setting)
            count = len(setting.string)
            self.assertEqual(setting.ink(), model.ink_between(0, count))
            self.assertEqual(setting.ink_between(0, count), setting.ink())
            for low in range(0, count + 1, 3):
                for high in range(low, count + 1, 4):
                    self.assertEqual(setting.ink_between(low, high), model.ink_between(low, high))


class Carets(unittest.TestCase):
    def test_point_62_the_line_of_an_index(self):
        # The lines are "ab", "c" and, behind the newline, "d"; there are spaces on no line.
        setting = Setting("  ab   c  \n  d ", size=1, width=2)
        self.assertEqual(setting.lines, [(2, 4), (7, 8), (13, 14)])
        self.assertEqual([setting.line_of(index) for index in range(16)], [0] * 7 + [1] * 4 + [2] * 5)

    def test_point_62_empty_paragraphs(self):
        setting = Setting("\n\na\n", width=5)
        self.assertEqual([setting.line_of(index) for index in range(5)], [0, 1, 2, 2, 3])
        setting = Setting("  \n  ", width=5)
        self.assertEqual([setting.line_of(index) for index in range(6)], [0, 0, 0, 1, 1, 1])
        setting = Setting("\n  a\n\n  b", width=5)
        self.assertEqual([setting.line_of(index) for index in range(10)], [0, 1, 1, 1, 1, 2, 3, 3, 3, 3])
        self.assertEqual(Setting("", width=5).line_of(0), 0)

    def test_point_63_carets(self):
        setting = Setting("  ab   c  \n  d ", size=1, lead=2, width=5, align="right")
        self.assertEqual(setting.lines, [(2, 4), (7, 8), (13, 14)])
        expected = [(1, 0), (1, 0), (1, 0), (3, 0), (5, 0), (5, 0), (5, 0), (3, 3), (5, 3), (5, 3), (5, 3),
                    (3, 6), (3, 6), (3, 6), (5, 6), (5, 6)]
        self.assertEqual([setting.caret(index) for index in range(16)], expected)

    def test_point_63_a_caret_before_the_first_line_and_in_an_empty_text(self):
        self.assertEqual(Setting("   a", width=9).caret(1), (0, 0))
        self.assertEqual(Setting("", width=9, align="right").caret(0), (9, 0))
        self.assertEqual(Setting("a\n", width=9, size=4, align="center").caret(2), (4, 4))

    def test_points_62_and_63_many_settings(self):
        for setting in settings():
            model = Model(setting)
            for index in range(len(setting.string) + 1):
                self.assertEqual(setting.line_of(index), model.line_of(index), (setting.string, index))
                self.assertEqual(setting.caret(index), model.caret(index), (setting.string, index))

    def test_point_65_the_index_nearest_to_a_caret(self):
        for setting in settings():
            for start, end in setting:
                for index in range(start, end + 1):
                    self.assertEqual(setting.index_near(*setting.caret(index)), index)


class Nearest(unittest.TestCase):
    def test_point_64_lines(self):
        setting = Setting("a\nb\nc", size=2, lead=1, width=9)
        rows = {-1000: 0, -1: 0, 0: 0, 2: 0, 3: 2, 5: 2, 6: 4, 8: 4, 9: 4, 1000: 4}
        for y, index in rows.items():
            self.assertEqual(setting.index_near(0, y), index, y)
            self.assertEqual(setting.index_near(-50, y), index, y)
            self.assertEqual(setting.index_near(50, y), index + 1, y)

    def test_point_64_places_and_the_same_distance(self):
        # The places are 0, 3, 4, 6 and 8.
        setting = Setting("miab", size=1, width=9)
        expected = {-99: 0, 0: 0, 1: 0, 2: 1, 3: 1, 4: 2, 5: 2, 6: 3, 7: 3, 8: 4, 99: 4}
        self.assertEqual({x: setting.index_near(x, 0) for x in expected}, expected)

    def test_point_64_indexes_that_are_on_no_line_are_not_found(self):
        setting = Setting("  a  b ", size=1, width=2)
        for x in range(-5, 9):
            self.assertIn(setting.index_near(x, 0), (2, 3))
            self.assertIn(setting.index_near(x, 1), (5, 6))

    def test_point_64_a_line_without_characters(self):
        setting = Setting("a\n\nb", size=1, width=9, align="right")
        self.assertEqual([setting.index_near(x, 1) for x in (-9, 0, 9, 99)], [2, 2, 2, 2])
        self.assertEqual(Setting("", width=5).index_near(3, 3), 0)

    def test_point_64_many_settings(self):
        source = random.Random(6)
        for setting in settings():
            model = Model(setting)
            for _ in range(12):
                x, y = source.randint(-20, 70), source.randint(-10, setting.total_height + 5)
                self.assertEqual(setting.index_near(x, y), model.index_near(x, y), (setting.string, x, y))
            for x, y in [(10 ** 15, 10 ** 15), (-10 ** 15, -10 ** 15), (10 ** 15, -10 ** 15)]:
                self.assertEqual(setting.index_near(x, y), model.index_near(x, y))


class Callers(unittest.TestCase):
    def test_point_66_texts_of_500_characters(self):
        for string in ["a " * 250, "\n" * 500, "m" * 500, "a b\n" * 125, " " * 500, "word " * 99 + "\nab "]:
            for width, align in product([0, 30, 10000], ALIGNS):
                setting = Setting(string[:500], size=20, lead=20, width=width, align=align)
                ink = setting.ink()
                self.assertEqual("".join(string[start:end] for start, end, x, y, w in ink),
                                 string[:500].replace(" ", "").replace("\n", ""))
                for index in range(0, len(setting.string) + 1, 25):
                    x, y = setting.caret(index)
                    self.assertEqual(y, setting.line_of(index) * 40)
                    self.assertEqual(setting.caret(setting.index_near(x, y)), (x, y))

    def test_points_3_and_66_each_list_is_a_new_one(self):
        setting = Setting("ab c\n\nd", size=1, width=5, align="full")
        calls = [lambda: setting.ink(), lambda: setting.ink_between(1, 6), lambda: setting.places(0)]
        for call in calls:
            kept = list(call())
            call().clear()
            call().append(99)
            self.assertEqual(call(), kept)
        self.assertEqual(setting.total_height, 4)
        self.assertEqual(list(setting), [(0, 2), (3, 4), (5, 5), (6, 7)])

    def test_point_66_beyond_the_limits_nothing_is_raised(self):
        setting = Setting("ab c", size=0, lead=0, width=3)
        self.assertEqual((setting.total_height, setting.index_near(0, 5)), (0, 0))
        setting = Setting("ab\nc", width=-5)
        self.assertEqual(setting.lines, [(0, 2), (3, 4)])
        self.assertEqual((setting.caret(9), setting.caret(-1)), ((4, 2), (0, 0)))
        self.assertEqual((setting.line_of(9), setting.line_of(-1)), (1, 0))
        self.assertEqual(setting.ink_between(-3, 99), setting.ink())
        self.assertEqual(Setting("a", size=21, lead=21, width=1).total_height, 42)


if __name__ == "__main__":
    unittest.main()
