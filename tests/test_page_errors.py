"""Points 25 and 6: the errors of the page, and their order."""

import unittest

from quirekiln.errors import BadPlace, BadValue, BadWord, NoNode, TooDeep, TooMany, WrongKind
from quirekiln.page import Page
from pages import assert_refused, chain_page, page_of, wide_page

NO_NODES = [0, -1, 7, 8, 999, 10 ** 20]
NOT_NUMBERS = [True, False, None, "0", "", (0,), [0], {}, 1.0]
NOT_WORDS = ["", "abcdefghijklm", "A", "a b", "a1", "a.b", "*", "a\n", "a%", None, True, 5, ("a",), ["a"]]
WRONG_STRINGS = ["%", "a%b", "\t", "\r", "a\x00", "\x7f", "\u00e4", "a" * 501, "\n" * 501, None, True, 5, ["a"], b"a"]
NINE = list("abcdefghi")


class Case(unittest.TestCase):
    def setUp(self):
        # 1 page, 2 a.m, 3 text, 4 b, 5 text, 6 was removed; a step can be undone and one redone.
        self.page = page_of(("a.m", ["x", ("b", ["y"])]), ("c", []))
        self.page.remove(6)
        self.page.set_own(2, "gap", 3)
        self.page.set_rules([("a", {"gap": 4})])
        self.page.resize(5, 6)
        self.page.undo()

    def refused(self, error, value, call, *arguments, **named):
        assert_refused(self, self.page, error, value, lambda: call(*arguments, **named))


class Window(Case):
    def test_point_20_numbers_from_0_to_1000(self):
        for wrong in [-1, 1001, -10 ** 20, 10 ** 20] + NOT_NUMBERS:
            self.refused(BadValue, "width", self.page.resize, wrong, 5)
            self.refused(BadValue, "height", self.page.resize, 5, wrong)
            self.refused(BadValue, "width", self.page.resize, wrong, wrong)
            self.refused(BadValue, "width", Page, wrong, 5)
            self.refused(BadValue, "height", Page, 5, wrong)
            self.refused(BadValue, "width", Page, wrong, wrong)


class Nodes(Case):
    def test_point_25_reading_methods_of_no_node(self):
        for node in NO_NODES + NOT_NUMBERS + [6]:
            for name in ["kind", "parent", "children", "name", "text", "marks", "own", "scroll", "depth"]:
                self.refused(NoNode, node, getattr(self.page, name), node)

    def test_point_25_edits_of_no_node(self):
        page = self.page
        for node in NO_NODES + NOT_NUMBERS + [6]:
            self.refused(NoNode, node, page.insert_box, node, 0, "a")
            self.refused(NoNode, node, page.insert_text, node, 0, "")
            self.refused(NoNode, node, page.remove, node)
            self.refused(NoNode, node, page.move, node, 1, 0)
            self.refused(NoNode, node, page.move, 2, node, 0)
            self.refused(NoNode, node, page.set_text, node, "")
            self.refused(NoNode, node, page.set_marks, node, [])
            self.refused(NoNode, node, page.set_own, node, "gap", 1)
            self.refused(NoNode, node, page.clear_own, node, "gap")
            self.refused(NoNode, node, page.scroll_to, node, 0, 0)

    def test_point_25_both_are_no_nodes(self):
        self.refused(NoNode, 77, self.page.move, 77, 66, 0)
        self.refused(NoNode, 66, self.page.move, 66, 77, 0)

    def test_point_25_no_node_comes_first(self):
        page = self.page
        self.refused(NoNode, 9, page.insert_box, 9, 99, "A", marks=NINE)
        self.refused(NoNode, 9, page.insert_text, 9, 99, None)
        self.refused(NoNode, 9, page.move, 1, 9, 99)
        self.refused(NoNode, 9, page.move, 9, 3, 99)
        self.refused(NoNode, 9, page.move, 9, 9, 99)
        self.refused(NoNode, 9, page.set_text, 9, "%")
        self.refused(NoNode, 9, page.set_marks, 9, ["A"])
        self.refused(NoNode, 9, page.set_own, 9, "A", "A")
        self.refused(NoNode, 9, page.clear_own, 9, "A")
        self.refused(NoNode, 9, page.scroll_to, 9, -1, -1)


class Kinds(Case):
    def test_point_25_a_text_is_no_parent(self):
        self.refused(WrongKind, 3, self.page.insert_box, 3, 0, "a")
        self.refused(WrongKind, 5, self.page.insert_text, 5, 0, "a")
        self.refused(WrongKind, 3, self.page.move, 4, 3, 0)
        self.refused(WrongKind, 5, self.page.move, 3, 5, 0)

    def test_point_25_boxes_and_texts_are_set_otherwise(self):
        for box in [1, 2, 4]:
            self.refused(WrongKind, box, self.page.set_text, box, "a")
        for text in [3, 5]:
            self.refused(WrongKind, text, self.page.set_marks, text, [])
            self.refused(WrongKind, text, self.page.set_own, text, "gap", 1)
            self.refused(WrongKind, text, self.page.clear_own, text, "gap")
            self.refused(WrongKind, text, self.page.scroll_to, text, 0, 0)

    def test_point_25_the_root_is_not_removed_or_moved(self):
        self.refused(WrongKind, 1, self.page.remove, 1)
        self.refused(WrongKind, 1, self.page.move, 1, 2, 0)
        self.refused(WrongKind, 1, self.page.move, 1, 1, 0)

    def test_point_25_the_node_is_checked_before_the_parent(self):
        self.refused(WrongKind, 1, self.page.move, 1, 3, 0)
        self.refused(WrongKind, 1, self.page.move, 1, 3, 99)

    def test_point_25_the_kind_comes_before_the_other_arguments(self):
        page = self.page
        self.refused(WrongKind, 3, page.insert_box, 3, 99, "A", marks=NINE)
        self.refused(WrongKind, 3, page.insert_text, 3, 99, None)
        self.refused(WrongKind, 3, page.move, 2, 3, 99)
        # A text into itself: it is a parent that is a text before it is its own parent.
        self.refused(WrongKind, 3, page.move, 3, 3, 0)
        self.refused(WrongKind, 5, page.move, 2, 5, 0)
        self.refused(WrongKind, 2, page.set_text, 2, "%")
        self.refused(WrongKind, 3, page.set_marks, 3, ["A"])
        self.refused(WrongKind, 3, page.set_own, 3, "A", "A")
        self.refused(WrongKind, 3, page.clear_own, 3, "A")
        self.refused(WrongKind, 3, page.scroll_to, 3, -1, -1)


class Words(Case):
    def test_point_25_names(self):
        for word in NOT_WORDS:
            self.refused(BadWord, word, self.page.insert_box, 1, 0, word)

    def test_point_4_words_of_12_and_13_letters(self):
        self.refused(BadWord, "abcdefghijklm", self.page.insert_box, 1, 0, "abcdefghijklm")
        self.refused(BadWord, "abcdefghijklm", self.page.set_marks, 2, ["abcdefghijklm"])
        node = self.page.insert_box(1, 0, "abcdefghijkl", marks=["zzzzzzzzzzzz"])
        self.assertEqual((self.page.name(node), self.page.marks(node)), ("abcdefghijkl", ("zzzzzzzzzzzz",)))

    def test_point_25_marks(self):
        for word in NOT_WORDS:
            for marks in [[word], (word,), ["a", word, "b"], ["a", word, "C"], NINE + [word]]:
                self.refused(BadWord, word, self.page.insert_box, 1, 0, "a", marks=marks)
                self.refused(BadWord, word, self.page.set_marks, 2, marks)

    def test_point_25_eight_and_nine_distinct_marks(self):
        self.refused(BadValue, "marks", self.page.insert_box, 1, 0, "a", marks=NINE)
        self.refused(BadValue, "marks", self.page.insert_box, 1, 0, "a", marks=tuple(NINE * 2))
        self.refused(BadValue, "marks", self.page.set_marks, 2, NINE)
        node = self.page.insert_box(1, 0, "a", marks=NINE[:8] * 2)
        self.assertEqual(self.page.marks(node), tuple(NINE[:8]))
        self.page.set_marks(2, NINE[1:] + NINE[1:])
        self.assertEqual(self.page.marks(2), tuple(NINE[1:]))

    def test_point_25_marks_that_are_no_list_or_tuple(self):
        for marks in [None, True, 5, "abc", {"a": 1}]:
            self.refused(BadValue, "marks", self.page.insert_box, 1, 0, "a", marks=marks)
            self.refused(BadValue, "marks", self.page.set_marks, 2, marks)

    def test_point_25_properties(self):
        for word in NOT_WORDS + ["a", "margin", "Left", "left ", "widths", "border-color"]:
            self.refused(BadWord, word, self.page.set_own, 2, word, 1)
            self.refused(BadWord, word, self.page.set_own, 2, word, None)
            self.refused(BadWord, word, self.page.clear_own, 2, word)

    def test_point_25_the_order_of_names_and_marks(self):
        self.refused(BadWord, "A", self.page.insert_box, 1, 99, "A", marks=["B"])
        self.refused(BadWord, "A", self.page.insert_box, 1, 99, "A", marks=NINE)
        self.refused(BadWord, "B", self.page.insert_box, 1, 99, "a", marks=["B", "C"])
        self.refused(BadValue, "marks", self.page.insert_box, 1, 99, "a", marks=NINE)


class Values(Case):
    def test_point_25_strings(self):
        for string in WRONG_STRINGS:
            self.refused(BadValue, "string", self.page.insert_text, 1, 0, string)
            self.refused(BadValue, "string", self.page.insert_text, 1, 99, string)
            self.refused(BadValue, "string", self.page.set_text, 3, string)

    def test_point_22_strings_of_500_characters_and_of_every_character(self):
        every = "".join(chr(number) for number in range(32, 127) if chr(number) != "%") + "\n"
        for string in ["a" * 500, "\n" * 500, every]:
            self.page.set_text(3, string)
            self.assertEqual(self.page.text(self.page.insert_text(1, 0, string)), string)
            self.assertEqual(self.page.text(3), string)

    def test_point_25_values_of_properties(self):
        wrong = {
            "gap": [-1, 101, True, False, None, "0", ("part", 5), "auto", (), [5], {}],
            "width": [-1, 1001, ("part", -1), ("part", 101), ("part", True), True, None, "none", ["part", 5]],
            "display": ["Block", "", "flow", 0, None, True, ("block",), ["block"]],
            "left": [-1001, 1001, "auto"], "border_color": [0, 256], "columns": [0, 11], "size": [0, 21],
        }
        for name, values in wrong.items():
            for value in values:
                self.refused(BadValue, name, self.page.set_own, 2, name, value)
                self.refused(BadValue, name, self.page.set_own, 1, name, value)

    def test_point_25_values_at_their_bounds(self):
        right = {"gap": [0, 100], "left": [-1000, 1000], "width": [0, 1000, ("part", 0), ("part", 100)]}
        for name, values in right.items():
            for value in values:
                self.page.set_own(2, name, value)
                self.assertEqual(self.page.own(2)[name], value)

    def test_point_25_scroll_positions(self):
        for wrong in [-1, 10001, 10 ** 20] + NOT_NUMBERS:
            self.refused(BadValue, "x", self.page.scroll_to, 2, wrong, 0)
            self.refused(BadValue, "y", self.page.scroll_to, 2, 0, wrong)
            self.refused(BadValue, "x", self.page.scroll_to, 2, wrong, wrong)


class Places(Case):
    def test_point_25_indexes_of_insertions(self):
        for wrong in [-1, 3, 10 ** 20] + NOT_NUMBERS:
            self.refused(BadPlace, wrong, self.page.insert_box, 2, wrong, "a")
            self.refused(BadPlace, wrong, self.page.insert_text, 2, wrong, "a")
        for wrong in [-1, 1]:
            self.refused(BadPlace, wrong, self.page.insert_text, self.page.insert_box(1, 0, "e"), wrong, "")

    def test_point_25_indexes_of_moves(self):
        for wrong in [-1, 2, 10 ** 20] + NOT_NUMBERS:
            self.refused(BadPlace, wrong, self.page.move, 3, 2, wrong)
            self.refused(BadPlace, wrong, self.page.move, 3, 4, wrong)
        self.page.move(3, 4, 1)
        self.assertEqual(self.page.children(4), [5, 3])

    def test_point_25_the_last_index_within_the_parent(self):
        self.refused(BadPlace, 2, self.page.move, 4, 2, 2)
        self.page.move(3, 2, 1)
        self.assertEqual(self.page.children(2), [4, 3])

    def test_point_25_not_into_itself_or_below(self):
        for index in [0, 99, None]:
            self.refused(BadPlace, 2, self.page.move, 2, 2, index)
            self.refused(BadPlace, 4, self.page.move, 2, 4, index)
            self.refused(BadPlace, 4, self.page.move, 4, 4, index)


class Sizes(unittest.TestCase):
    def refused(self, page, error, value, call):
        assert_refused(self, page, error, value, call)

    def test_point_25_depth_30_and_31_by_insertion(self):
        page = chain_page(29)
        node = page.insert_box(29, 0, "a")
        self.assertEqual(page.depth(node), 30)
        self.assertEqual(page.depth(page.insert_text(29, 0, "")), 30)
        self.refused(page, TooDeep, 31, lambda: page.insert_box(node, 0, "a"))
        self.refused(page, TooDeep, 31, lambda: page.insert_text(node, 0, ""))

    def test_point_25_depth_30_and_more_by_a_move(self):
        page = chain_page(28)
        top = page.insert_box(1, 0, "b")
        low = page.insert_box(top, 0, "b")
        page.move(top, 28, 0)
        self.assertEqual(page.depth(low), 30)
        page.undo()
        leaf = page.insert_text(low, 0, "y")
        self.refused(page, TooDeep, 31, lambda: page.move(top, 28, 0))
        page.move(top, 27, 0)
        self.assertEqual(page.depth(leaf), 30)

    def test_point_25_the_value_is_the_greatest_depth(self):
        page = chain_page(30)
        for parent in range(2, 30):
            page.insert_text(parent, 1, "leaf")
        other = page.insert_box(1, 1, "b")
        page.insert_text(other, 0, "x")
        deep = page.insert_box(other, 1, "b")
        page.insert_text(deep, 0, "y")
        for parent in [28, 29, 30]:
            self.refused(page, TooDeep, parent + 3, lambda: page.move(other, parent, 0))
        page.move(other, 27, 0)

    def test_point_25_a_move_upwards_is_never_too_deep(self):
        page = chain_page(30)
        page.move(16, 1, 0)
        self.assertEqual((page.depth(15), page.depth(16), page.depth(30)), (15, 2, 16))
        self.refused(page, BadPlace, 16, lambda: page.move(16, 16, 0))
        page.move(16, 15, 0)
        self.assertEqual(page.depth(30), 30)

    def test_point_25_300_and_301_nodes(self):
        page = wide_page(299)
        page.insert_box(1, 0, "a")
        self.assertEqual(len(page.nodes()), 300)
        self.refused(page, TooMany, 301, lambda: page.insert_box(1, 0, "a"))
        self.refused(page, TooMany, 301, lambda: page.insert_text(1, 299, "a"))

    def test_point_25_a_full_page_may_be_moved_about(self):
        page = wide_page(299)
        box = page.insert_box(1, 0, "a")
        page.move(2, box, 0)
        page.remove(3)
        page.insert_text(1, 0, "a")
        self.assertEqual(len(page.nodes()), 300)

    def test_point_25_both_at_once(self):
        page = chain_page(30)
        for _ in range(270):
            page.insert_text(1, 0, "")
        self.assertEqual(len(page.nodes()), 300)
        self.refused(page, TooDeep, 31, lambda: page.insert_text(30, 0, ""))
        self.refused(page, TooMany, 301, lambda: page.insert_text(29, 0, ""))

    def test_point_25_the_sizes_come_last(self):
        page = chain_page(30)
        for _ in range(270):
            page.insert_text(1, 0, "")
        self.refused(page, BadPlace, 1, lambda: page.insert_text(30, 1, ""))
        self.refused(page, BadWord, "A", lambda: page.insert_box(30, 1, "A"))
        self.refused(page, BadValue, "marks", lambda: page.insert_box(30, 1, "a", marks=NINE))
        self.refused(page, BadValue, "string", lambda: page.insert_text(30, 1, "%"))
        self.refused(page, BadPlace, 30, lambda: page.move(2, 30, 1))
        self.refused(page, BadPlace, 5, lambda: page.move(300, 30, 5))
        self.refused(page, TooDeep, 31, lambda: page.move(300, 30, 0))


if __name__ == "__main__":
    unittest.main()
