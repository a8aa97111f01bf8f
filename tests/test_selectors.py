"""Points 42 and 45: how selectors are written, and their weight."""

import unittest
from itertools import product

from quirekiln.errors import BadSelector, PageError
from quirekiln.selectors import parse_selector, weight, write_selector

GOOD = {
    "*": (("", "*", ()),),
    "a": (("", "a", ()),),
    "abcdefghijkl": (("", "abcdefghijkl", ()),),
    ".m": (("", "", ("m",)),),
    ".b.a": (("", "", ("b", "a")),),
    "a.b": (("", "a", ("b",)),),
    "a.zz.b.a": (("", "a", ("zz", "b", "a")),),
    "a b": (("", "a", ()), (" ", "b", ())),
    "a > b": (("", "a", ()), (">", "b", ())),
    "* *": (("", "*", ()), (" ", "*", ())),
    ".m > .m": (("", "", ("m",)), (">", "", ("m",))),
    "a b > c.x.y *": (("", "a", ()), (" ", "b", ()), (">", "c", ("x", "y")), (" ", "*", ())),
    "a > b > c > d": (("", "a", ()), (">", "b", ()), (">", "c", ()), (">", "d", ())),
}
BAD = [
    "", " ", ">", " > ", "  ", ".", "..", "**", "***",
    " a", "a ", "a  b", "a >b", "a> b", "a>b", "a >  b", "a  > b", "a > ", "a >", "> a", " > a", "a > > b",
    "a > >", "a >> b", "a b ", "a >\nb", "a\nb", "a\n", "\na", "a\tb",
    "a.", "a..b", "a.b.", ".a.", "a .b.", "a. b", "*.a", "*a", "a*", "a.*", ".*", "a.b*",
    "a.b.b", ".b.b", ".a.b.a", "x y.m.n.m", "a.b.b c",
    "A", "aB", "a1", "1", "a-b", "a_b", "a,b", "a#b", "a:b", "a%", "%", "{", "`", "\u00e4", "a.B", "a.1", "a.b%",
    "abcdefghijklm", "a.abcdefghijklm", ".abcdefghijklm", "a abcdefghijklm",
    "a b c d e", "a > b > c > d > e", "* * * * *", "a b c d >", "a b c d > e",
]
NOT_STRINGS = [None, True, False, 0, 1, ("a",), ["a"], b"a", {}]


def long_selector(length):
    """A selector of two steps with distinct marks that has this many characters."""
    marks = [".abcdefghi" + letter for letter in "abcdefgh"]
    text = "a" + "".join(marks) + " b"
    return text + ".m" + "m" * (length - len(text) - 2)


class Parsing(unittest.TestCase):
    def refuse(self, text):
        with self.assertRaises(PageError) as held:
            parse_selector(text)
        self.assertEqual((held.exception.__class__, held.exception.value), (BadSelector, text))
        self.assertIs(held.exception.value.__class__, text.__class__)

    def test_point_42_parsed_forms(self):
        for text, steps in GOOD.items():
            self.assertEqual(parse_selector(text), steps, text)

    def test_point_42_parsed_forms_are_tuples_of_tuples(self):
        for text in GOOD:
            steps = parse_selector(text)
            self.assertIs(isinstance(steps, tuple), True, text)
            for step in steps:
                self.assertIs(isinstance(step, tuple) and isinstance(step[2], tuple), True, text)

    def test_point_42_writing_what_was_parsed(self):
        for text, steps in GOOD.items():
            self.assertEqual(write_selector(steps), text)
            self.assertEqual(write_selector(parse_selector(text)), text)

    def test_point_42_one_to_four_steps_with_all_joints(self):
        parts = {"*": ("*", ()), "ab": ("ab", ()), "ab.c": ("ab", ("c",)), ".d.c": ("", ("d", "c"))}
        for count in range(1, 5):
            for names in product(parts, repeat=count):
                for joints in product([" ", ">"], repeat=count - 1):
                    steps = tuple((joint, *parts[name]) for joint, name in zip(("", *joints), names))
                    signs = [" > " if joint == ">" else joint for joint in ("", *joints)]
                    text = "".join(sign + name for sign, name in zip(signs, names))
                    self.assertEqual(parse_selector(text), steps, text)
                    self.assertEqual(write_selector(steps), text)

    def test_point_42_five_steps_are_too_many(self):
        for joints in product([" ", " > "], repeat=4):
            self.refuse("a" + "".join(joint + "b" for joint in joints))

    def test_point_42_100_and_101_characters(self):
        text = long_selector(100)
        self.assertEqual(len(text), 100)
        self.assertEqual(write_selector(parse_selector(text)), text)
        self.assertEqual(len(long_selector(101)), 101)
        self.assertLessEqual(len(long_selector(101).rpartition(".")[2]), 12)
        self.refuse(long_selector(101))

    def test_point_42_wrong_strings(self):
        for text in BAD:
            self.refuse(text)

    def test_point_42_each_character_in_each_place(self):
        for number in range(256):
            char = chr(number)
            for text in ["a" + char, char + "a", "a.b" + char, ".b" + char + "c d", "a > b" + char]:
                if "a" <= char <= "z" or text in (".a", "a.b.c d", ".b.c d", ".b c d"):
                    self.assertEqual(write_selector(parse_selector(text)), text)
                else:
                    self.refuse(text)

    def test_point_42_a_space_too_many_or_too_few_at_each_place(self):
        text = "a.m b > c"
        for place in range(len(text) + 1):
            longer = text[:place] + " " + text[place:]
            # A space before a mark begins a step of its own; every other one is too many.
            if longer == "a .m b > c":
                self.assertEqual(len(parse_selector(longer)), 4)
            else:
                self.refuse(longer)
        for shorter in ["a.m b> c", "a.m b >c", "a.m b>c", "a.m > b >c"]:
            self.refuse(shorter)

    def test_point_42_the_same_mark_may_occur_in_two_steps(self):
        self.assertEqual(len(parse_selector("a.m b.m > c.m .m")), 4)

    def test_point_42_more_marks_than_a_box_can_have(self):
        text = "".join("." + letter for letter in "abcdefghijkl")
        self.assertEqual(len(parse_selector(text)[0][2]), 12)

    def test_point_42_what_is_not_a_string(self):
        for value in NOT_STRINGS:
            self.refuse(value)


class Weight(unittest.TestCase):
    def test_point_45_marks_and_names_are_counted(self):
        weights = {
            "*": (0, 0), "a": (0, 1), ".m": (1, 0), "a.m": (1, 1), "a.m.n": (2, 1), "* *": (0, 0), "a * b": (0, 2),
            ".m .m > .n": (3, 0), "a.x.y b > * > c.x": (3, 3), "a b c d": (0, 4), ".a.b.c.d .e": (5, 0),
        }
        for text, expected in weights.items():
            found = weight(parse_selector(text))
            self.assertEqual(found, expected, text)
            self.assertIs(isinstance(found, tuple), True)


if __name__ == "__main__":
    unittest.main()
