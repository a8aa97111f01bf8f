"""Point 103: which nodes a refresh reports as styled."""

import unittest

from quirekiln.engine import Engine
from layouts import styled_page
from pages import page_of


class Styled(unittest.TestCase):
    def setUp(self):
        # 1 page, 2 a, 3 text, 4 b, 5 text, 6 c, 7 text
        self.page = page_of(("a", ["x", ("b", ["y"])]), ("c", []), "z")
        self.engine = Engine(self.page)
        self.engine.refresh()

    def check(self, *expected):
        self.assertEqual(self.engine.refresh().styled, list(expected))
        self.assertEqual(self.engine.refresh().styled, [])

    def back_and_again(self, back, again):
        """Undoes and redoes the last edit."""
        for _ in range(2):
            self.page.undo()
            self.check(*back)
            self.page.redo()
            self.check(*again)

    def test_point_103_the_first_refresh(self):
        page = styled_page(9, 9, "a", ({"display": "none"}, ["b"]))
        engine = Engine(page)
        page.insert_text(1, 0, "c")
        page.remove(2)
        self.assertEqual(engine.refresh().styled, [1, 5, 3, 4])

    def test_point_103_insertions(self):
        self.assertEqual(self.page.insert_box(2, 0, "d"), 8)
        self.check(8)
        self.back_and_again([], [8])
        self.assertEqual(self.page.insert_text(4, 0, "w"), 9)
        self.check(9)
        self.back_and_again([], [9])

    def test_point_103_remove(self):
        self.page.remove(2)
        self.check()
        self.back_and_again([2, 3, 4, 5], [])

    def test_point_103_move(self):
        self.page.move(4, 6, 0)
        self.check(4, 5)
        self.back_and_again([4, 5], [4, 5])
        self.page.move(7, 1, 0)
        self.check(7)

    def test_point_103_marks_and_own_properties(self):
        for edit in [
            lambda: self.page.set_marks(2, ["m"]), lambda: self.page.set_own(2, "gap", 5),
            lambda: self.page.clear_own(2, "gap"),
        ]:
            edit()
            self.check(2, 3, 4, 5)
            self.back_and_again([2, 3, 4, 5], [2, 3, 4, 5])

    def test_point_103_edits_that_change_nothing_mark_too(self):
        self.page.clear_own(4, "gap")
        self.check(4, 5)
        self.page.set_marks(6, [])
        self.check(6)
        self.page.move(4, 2, 1)
        self.check(4, 5)

    def test_point_103_of_the_root(self):
        self.page.set_own(1, "color", 9)
        self.check(1, 2, 3, 4, 5, 6, 7)

    def test_point_103_rules(self):
        self.page.set_rules([("zz", {"gap": 1})])
        self.check(1, 2, 3, 4, 5, 6, 7)
        self.back_and_again([1, 2, 3, 4, 5, 6, 7], [1, 2, 3, 4, 5, 6, 7])

    def test_point_103_the_other_edits_mark_nothing(self):
        for edit in [
            lambda: self.page.set_text(3, "new"), lambda: self.page.scroll_to(2, 1, 1), lambda: self.page.resize(5, 5),
        ]:
            edit()
            self.check()
            self.back_and_again([], [])

    def test_point_103_several_edits_in_document_order(self):
        self.page.set_own(6, "gap", 1)
        self.page.insert_text(1, 3, "end")
        self.page.set_marks(4, ["m"])
        self.check(4, 5, 6, 8)

    def test_point_103_nodes_that_are_gone_again(self):
        self.page.set_own(4, "gap", 1)
        self.page.insert_text(6, 0, "w")
        self.page.remove(4)
        self.page.undo()
        self.page.undo()
        self.check(4, 5)
        self.page.insert_text(6, 0, "w")
        self.page.remove(6)
        self.check()

    def test_point_103_nodes_that_came_back_after_the_rules_changed(self):
        self.page.remove(2)
        self.page.set_rules([])
        self.check(1, 6, 7)
        self.page.undo()
        self.page.undo()
        self.check(1, 2, 3, 4, 5, 6, 7)

    def test_point_103_what_is_below_counts_as_it_is_after_the_step(self):
        self.page.set_own(2, "gap", 1)
        self.page.move(6, 4, 0)
        self.check(2, 3, 4, 6, 5)
        # First the move is undone, and then 6 is not below 2 any more.
        self.page.undo()
        self.check(6)
        self.page.undo()
        self.check(2, 3, 4, 5)
        self.page.redo()
        self.page.redo()
        self.check(2, 3, 4, 6, 5)

    def test_point_103_nothing_to_undo_or_redo(self):
        self.assertIs(self.page.redo(), False)
        self.check()
        page = page_of("x").duplicate()
        engine = Engine(page)
        engine.refresh()
        self.assertIs(page.undo(), False)
        self.assertEqual(engine.refresh().styled, [])

    def test_point_103_refused_edits_mark_nothing(self):
        for call in [
            lambda: self.page.move(2, 4, 0), lambda: self.page.set_own(2, "gap", -1),
            lambda: self.page.insert_box(2, 9, "a"), lambda: self.page.set_rules([("", {})]),
            lambda: self.page.set_marks(2, ["M"]),
        ]:
            with self.assertRaises(ValueError):
                call()
        self.check()

    def test_point_103_engines_that_are_refreshed_at_different_moments(self):
        late = Engine(self.page)
        self.page.set_own(6, "gap", 1)
        other = Engine(self.page)
        other.refresh()
        self.page.set_own(4, "gap", 1)
        self.check(4, 5, 6)
        self.assertEqual(other.refresh().styled, [4, 5])
        self.page.undo()
        self.page.undo()
        self.assertEqual(other.refresh().styled, [4, 5, 6])
        self.assertEqual(late.refresh().styled, [1, 2, 3, 4, 5, 6, 7])
        self.check(4, 5, 6)


if __name__ == "__main__":
    unittest.main()
