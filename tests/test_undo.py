"""Point 26: undo and redo."""

import random
import unittest

from quirekiln.page import Page
from pages import assert_consistent, edit_at_random, page_of, some_rules


class Steps(unittest.TestCase):
    def test_point_26_nothing_to_undo_or_redo(self):
        page = Page(1, 2)
        before = page.snapshot()
        self.assertEqual((page.undo(), page.redo(), page.undo()), (False, False, False))
        self.assertEqual(page.snapshot(), before)

    def test_point_26_each_edit_is_one_step(self):
        page = page_of(("a.m", ["x", ("b", ["y"])]), "z")
        page.set_own(2, "level", 5)
        edits = [
            lambda: page.insert_box(2, 1, "c", marks=["k"]), lambda: page.insert_text(2, 0, "w"),
            lambda: page.remove(2), lambda: page.move(4, 1, 0), lambda: page.move(3, 2, 1),
            lambda: page.set_text(3, "new"), lambda: page.set_marks(2, ["n", "o"]),
            lambda: page.set_own(2, "gap", 4), lambda: page.set_own(2, "level", 6), lambda: page.clear_own(2, "level"),
            lambda: page.set_rules([("a", {"gap": 1})]), lambda: page.scroll_to(2, 3, 4), lambda: page.resize(7, 8),
        ]
        for number, edit in enumerate(edits):
            before = page.snapshot()
            edit()
            after = page.snapshot()
            self.assertNotEqual(before, after, number)
            for _ in range(3):
                self.assertIs(page.undo(), True)
                self.assertEqual(page.snapshot(), before, number)
                assert_consistent(self, page)
                self.assertIs(page.redo(), True)
                self.assertEqual(page.snapshot(), after, number)
                assert_consistent(self, page)
            self.assertIs(page.redo(), False)
            page.undo()

    def test_point_26_edits_that_change_nothing_are_steps(self):
        page = page_of(("a.m", ["x"]))
        page.set_own(2, "gap", 1)
        page.set_rules([("a", {"gap": 1})])
        page.scroll_to(2, 3, 4)
        before = page.snapshot()
        edits = [
            lambda: page.move(3, 2, 0), lambda: page.set_text(3, "x"), lambda: page.set_marks(2, ("m", "m")),
            lambda: page.set_own(2, "gap", 1), lambda: page.clear_own(2, "level"),
            lambda: page.set_rules([("a", {"gap": 1})]), lambda: page.scroll_to(2, 3, 4), lambda: page.resize(100, 50),
        ]
        for edit in edits:
            edit()
            self.assertEqual(page.snapshot(), before)
        for _ in edits:
            self.assertIs(page.undo(), True)
            self.assertEqual(page.snapshot(), before)
        page.undo()
        self.assertEqual(page.scroll(2), (0, 0))
        for _ in range(len(edits) + 1):
            self.assertIs(page.redo(), True)
        self.assertIs(page.redo(), False)
        self.assertEqual(page.snapshot(), before)

    def test_point_26_a_new_edit_discards_what_could_be_redone(self):
        for edit in [lambda page: page.set_text(2, "c"), lambda page: page.clear_own(1, "gap"),
                     lambda page: page.resize(100, 50), lambda page: page.insert_text(1, 0, "")]:
            page = page_of("a")
            page.set_text(2, "b")
            page.set_text(2, "d")
            page.undo()
            page.undo()
            edit(page)
            after = page.snapshot()
            self.assertIs(page.redo(), False)
            self.assertEqual(page.snapshot(), after)
            self.assertIs(page.undo(), True)
            self.assertEqual(page.text(2), "a")
            self.assertIs(page.redo(), True)
            self.assertIs(page.redo(), False)

    def test_point_26_a_refused_edit_is_no_step_and_discards_nothing(self):
        page = page_of("a")
        page.set_text(2, "b")
        page.set_text(2, "c")
        page.undo()
        refused = [
            lambda: page.set_text(2, "%"), lambda: page.set_text(1, "d"), lambda: page.remove(1),
            lambda: page.remove(9), lambda: page.insert_box(1, 5, "a"), lambda: page.insert_box(1, 0, "A"),
            lambda: page.insert_text(2, 0, "d"), lambda: page.resize(1, -1), lambda: page.set_rules([("", {})]),
            lambda: page.set_own(1, "gap", None), lambda: page.scroll_to(1, 5, -1), lambda: page.move(2, 1, 1),
        ]
        for call in refused:
            self.assertRaises(ValueError, call)
            self.assertIs(page.redo(), True)
            self.assertEqual(page.text(2), "c")
            self.assertIs(page.undo(), True)
            self.assertEqual(page.text(2), "b")
        page.undo()
        self.assertEqual(page.text(2), "a")

    def test_point_26_the_window_and_the_rules(self):
        page = Page(1, 2)
        first, second = [("a", {"gap": 1})], [("b c", {}), ("*", {"size": 5})]
        page.set_rules(first)
        page.resize(3, 4)
        page.set_rules(second)
        page.resize(5, 6)
        told = []
        for _ in range(4):
            told.append((page.width, page.height, page.rules()))
            page.undo()
        self.assertEqual(told, [(5, 6, second), (3, 4, second), (3, 4, first), (1, 2, first)])
        self.assertEqual((page.width, page.height, page.rules()), (1, 2, []))
        for expected in told[::-1]:
            page.redo()
            self.assertEqual((page.width, page.height, page.rules()), expected)

    def test_point_26_a_removal_is_undone_with_all_below_at_the_same_place(self):
        page = page_of("x", ("a.m", ["y", ("b", ["z"])]), "w")
        page.set_own(5, "gap", 2)
        page.scroll_to(5, 1, 1)
        before = page.snapshot()
        page.remove(3)
        page.insert_text(1, 1, "new")
        self.assertEqual(page.nodes(), [1, 2, 8, 7])
        page.undo()
        page.undo()
        self.assertEqual(page.snapshot(), before)
        self.assertEqual(page.insert_text(1, 0, "more"), 9)

    def test_point_26_the_counter_does_not_go_back(self):
        page = Page(1, 1)
        for expected in range(2, 12):
            self.assertEqual(page.insert_text(1, 0, ""), expected)
            page.undo()
        self.assertEqual(page.nodes(), [1])
        page.redo()
        self.assertEqual(page.nodes(), [1, 11])
        self.assertEqual(page.insert_box(1, 0, "a"), 12)


class Rows(unittest.TestCase):
    def test_point_26_hundreds_of_edits_undone_and_redone(self):
        page = Page(10, 10)
        told = [page.snapshot()]
        for number in range(400):
            if number % 4 == 0:
                page.insert_box(page.nodes()[number % 7 % len(page.nodes())], 0, "a")
            elif number % 4 == 1:
                page.set_own(page.nodes()[-1], "left", number)
            elif number % 4 == 2:
                page.move(page.nodes()[-1], 1, 0)
            else:
                page.set_rules([("a", {"left": number})])
            told.append(page.snapshot())
        for expected in told[-2::-1]:
            self.assertIs(page.undo(), True)
            self.assertEqual(page.snapshot(), expected)
        self.assertIs(page.undo(), False)
        for expected in told[1:]:
            self.assertIs(page.redo(), True)
            self.assertEqual(page.snapshot(), expected)
        self.assertIs(page.redo(), False)

    def test_point_26_random_edits_with_undo_and_redo_between_them(self):
        for seed in range(25):
            self.walk(random.Random(seed))

    def walk(self, source):
        """Keeps all values of a page in two stacks and compares them with the page's own."""
        page = Page(5, 5)
        past, future = [], []
        most = 1
        for _ in range(150):
            before = page.snapshot()
            choice = source.random()
            if choice < 0.2:
                self.assertIs(page.undo(), past != [])
                if past:
                    future.append(before)
                    before = past.pop()
            elif choice < 0.35:
                self.assertIs(page.redo(), future != [])
                if future:
                    past.append(before)
                    before = future.pop()
            elif edit_at_random(page, source):
                past.append(before)
                future = []
                before = page.snapshot()
            self.assertEqual(page.snapshot(), before)
            newest = max(page.nodes())
            self.assertLessEqual(newest, most + 1)
            most = max(most, newest)
        assert_consistent(self, page)

    def test_point_26_steps_keep_no_hold_of_what_was_handed_in(self):
        page = Page(5, 5)
        source = random.Random(1)
        rules = some_rules(source) + [("a", {"gap": 1})]
        page.set_rules(rules)
        after = page.snapshot()
        page.undo()
        rules[-1][1]["gap"] = 2
        rules.clear()
        page.redo()
        self.assertEqual(page.snapshot(), after)


if __name__ == "__main__":
    unittest.main()
