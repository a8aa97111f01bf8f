"""Points 2 and 100 to 104: engines, what a refresh lays out, and its damage."""

import copy
import time
import unittest

from quirekiln.engine import Engine, Report
from quirekiln.errors import NoNode
from quirekiln.layout import needed, rectangles
from quirekiln.page import Page
from quirekiln.painting import painted_items
from quirekiln.styles import computed
from layouts import styled_page, tall_rows


def box(*sketch, **style):
    """A box."""
    return (style, list(sketch))


def refreshed(page):
    """An engine of a page after its first refresh."""
    engine = Engine(page)
    engine.refresh()
    return engine


class FromNothing(unittest.TestCase):
    def test_point_100_before_the_first_refresh(self):
        page = styled_page(20, 10, "a", box(background=3, height=5))
        engine = Engine(page)
        self.assertEqual(engine.rectangles(), {})
        self.assertEqual(engine.painted(), [])
        self.assertEqual((engine.pixel(0, 3), engine.hit(0, 3), engine.hits(0, 3)), (0, 0, []))
        self.assertEqual((engine.shot((0, 0, 20, 10)), engine.shot((0, 0, 0, 0))), ([], []))
        calls = [
            lambda: engine.caret(2, 0), lambda: engine.index_at(2, 0, 0), lambda: engine.selection((2, 0), (5, 9)),
            lambda: engine.selected_text((2, 0), (5, 9)),
        ]
        for call in calls:
            with self.assertRaises(NoNode) as held:
                call()
            self.assertEqual(held.exception.value, 2)

    def test_point_100_the_first_refresh(self):
        page = styled_page(20, 10, "a", box("b", display="none"), box(background=3, height=5))
        report = Engine(page).refresh()
        self.assertIsInstance(report, Report)
        self.assertEqual(report.laid, [(2, 20, "auto"), (5, 20, "auto"), (1, 20, "auto")])
        self.assertEqual(report.styled, [1, 2, 3, 4, 5])
        self.assertEqual(report.damage, [(0, 0, 20, 10)])
        self.assertLessEqual({"laid", "styled", "damage"}, set(vars(report)))

    def test_point_104_an_empty_window_has_no_cells(self):
        for size in [(0, 0), (0, 9), (9, 0)]:
            engine = Engine(Page(*size))
            self.assertEqual(engine.refresh().damage, [])
            self.assertEqual((engine.shot((0, 0, 9, 9)), engine.pixel(0, 0)), ([], 0))

    def test_point_100_what_an_engine_tells(self):
        page = styled_page(20, 10, "a", box(background=3, height=5))
        engine = refreshed(page)
        styles = computed(page)
        self.assertEqual(engine.rectangles(), rectangles(page, styles))
        self.assertEqual(engine.painted(), painted_items(page, styles, rectangles(page, styles)))
        self.assertEqual([engine.pixel(0, y) for y in range(-1, 11)], [0, 1, 1, 3, 3, 3, 3, 3, 0, 0, 0, 0])

    def test_point_100_shots(self):
        high, wide = box(background=3, height=2, width=3), box(background=2, height=1, width=4)
        engine = refreshed(styled_page(5, 4, high, wide))
        whole = [[3, 3, 3, 0, 0], [3, 3, 3, 0, 0], [2, 2, 2, 2, 0], [0, 0, 0, 0, 0]]
        self.assertEqual(engine.shot((0, 0, 5, 4)), whole)
        self.assertEqual(engine.shot((-3, -3, 100, 100)), whole)
        self.assertEqual(engine.shot((2, 1, 2, 2)), [[3, 0], [2, 2]])
        self.assertEqual(engine.shot((3, 2, 9, 9)), [[2, 0], [0, 0]])
        self.assertEqual(engine.shot((4, 3, 1, 1)), [[0]])
        for rect in [(0, 0, 0, 4), (0, 0, 5, 0), (5, 0, 2, 2), (0, 4, 2, 2), (-2, 0, 2, 2), (0, -2, 2, 2)]:
            self.assertEqual(engine.shot(rect), [])
        for y in range(4):
            for x in range(5):
                self.assertEqual(engine.shot((x, y, 1, 1)), [[engine.pixel(x, y)]])


class Kept(unittest.TestCase):
    """Points 101 and 102."""

    def setUp(self):
        # 2 row, 3 box, 4 text, 5 box, 6 text, 7 box, 8 text
        self.page = styled_page(
            100, 50, box(box("ab", width=20), box("cd", width=30, height=9), display="row"), box("ef"),
        )
        self.engine = refreshed(self.page)

    def laid(self):
        """What a refresh lays out; a second one lays out nothing and does no damage."""
        found = self.engine.refresh().laid
        again = self.engine.refresh()
        self.assertEqual((again.laid, again.styled, again.damage), ([], [], []))
        return found

    def test_point_102_no_edit(self):
        self.assertEqual(self.laid(), [])

    def test_point_102_a_text_and_all_above_it(self):
        self.page.set_text(4, "xy")
        self.assertEqual(self.laid(), [
            (4, 20, "auto"), (3, 20, "auto"), (3, 20, 9), (2, 100, "auto"), (1, 100, "auto"),
        ])
        self.page.set_text(8, "xy")
        self.assertEqual(self.laid(), [(8, 100, "auto"), (7, 100, "auto"), (1, 100, "auto")])

    def test_point_101_properties_that_do_not_count(self):
        for name, value in [("color", 9), ("background", 9), ("border_color", 9), ("level", 9), ("clip", "cut"),
                            ("align", "right")]:
            for node in (1, 2, 3, 7):
                self.page.set_own(node, name, value)
                self.assertEqual(self.laid(), [], name)

    def test_point_101_properties_that_count(self):
        self.page.set_own(7, "top", 5)
        self.assertEqual(self.laid(), [(7, 100, "auto"), (1, 100, "auto")])
        self.page.set_own(3, "columns", 7)
        self.assertEqual(self.laid(), [(3, 20, "auto"), (3, 20, 9), (2, 100, "auto"), (1, 100, "auto")])
        self.page.set_own(7, "lead", 1)
        self.assertEqual(self.laid(), [(8, 100, "auto"), (7, 100, "auto"), (1, 100, "auto")])

    def test_point_101_the_root_alone(self):
        for name in ("margin_left", "width", "height", "left"):
            self.page.set_own(1, name, 7)
            self.assertEqual(self.laid(), [(1, 100, "auto")])

    def test_point_101_names_marks_and_scroll_positions_do_not_count(self):
        self.page.set_marks(3, ["m"])
        self.page.scroll_to(3, 5, 5)
        self.assertEqual(self.laid(), [])

    def test_point_101_the_parent_counts(self):
        self.page.move(4, 7, 0)
        self.assertEqual(self.laid(), [
            (3, 20, "auto"), (3, 20, 9), (2, 100, "auto"), (4, 100, "auto"), (7, 100, "auto"), (1, 100, "auto"),
        ])

    def test_point_101_the_order_of_children_counts(self):
        self.page.move(7, 1, 0)
        self.assertEqual(self.laid(), [(1, 100, "auto")])
        self.page.move(3, 2, 1)
        self.assertEqual(self.laid(), [(2, 100, "auto"), (1, 100, "auto")])

    def test_point_102_insertions_and_removals(self):
        node = self.page.insert_text(7, 0, "gh")
        self.assertEqual(self.laid(), [(node, 100, "auto"), (7, 100, "auto"), (1, 100, "auto")])
        self.page.remove(5)
        self.assertEqual(self.laid(), [(2, 100, "auto"), (1, 100, "auto")])
        # What comes back was not needed at the last refresh.
        self.page.undo()
        self.assertEqual(self.laid(), [
            (6, 30, "auto"), (5, 30, "auto"), (3, 20, 9), (2, 100, "auto"), (1, 100, "auto"),
        ])

    def test_point_102_hidden_and_shown_again(self):
        self.page.set_own(7, "display", "none")
        self.assertEqual(self.laid(), [(1, 100, "auto")])
        self.page.undo()
        self.assertEqual(self.laid(), [(8, 100, "auto"), (7, 100, "auto"), (1, 100, "auto")])

    def test_point_102_edits_that_are_undone_before_the_refresh(self):
        self.page.set_text(4, "xy")
        self.page.remove(7)
        self.page.undo()
        self.page.undo()
        self.assertEqual(self.laid(), [])

    def test_point_102_undo_and_redo(self):
        self.page.set_text(4, "xy")
        first = self.laid()
        self.page.undo()
        self.assertEqual(self.laid(), first)
        self.page.redo()
        self.assertEqual(self.laid(), first)

    def test_point_102_only_the_last_refresh_counts(self):
        self.page.resize(90, 50)
        narrower = self.laid()
        self.assertEqual(narrower, [(2, 90, "auto"), (8, 90, "auto"), (7, 90, "auto"), (1, 90, "auto")])
        self.page.resize(100, 50)
        self.assertEqual(self.laid(), [(2, 100, "auto"), (8, 100, "auto"), (7, 100, "auto"), (1, 100, "auto")])

    def test_point_102_tasks_of_another_size(self):
        self.page.set_own(3, "width", 25)
        self.assertEqual(self.laid(), [
            (4, 25, "auto"), (3, 25, "auto"), (3, 25, 9), (2, 100, "auto"), (1, 100, "auto"),
        ])
        # The other column of the row is higher: only the second layout of 3 is new.
        self.page.set_own(5, "height", 12)
        self.assertEqual(self.laid(), [(5, 30, "auto"), (3, 25, 12), (2, 100, "auto"), (1, 100, "auto")])

    def test_point_102_the_height_of_the_window(self):
        self.page.resize(100, 70)
        report = self.engine.refresh()
        self.assertEqual((report.laid, report.damage), ([], [(0, 0, 100, 70)]))
        self.assertEqual(self.engine.rectangles()[1], (0, 0, 100, 70))

    def test_point_102_what_was_kept_once_can_be_kept_again(self):
        for string in ("x", "y", "z"):
            self.page.set_text(8, string)
            self.assertEqual(self.laid(), [(8, 100, "auto"), (7, 100, "auto"), (1, 100, "auto")])
        self.page.set_text(4, "x")
        self.assertEqual(self.laid()[:2], [(4, 20, "auto"), (3, 20, "auto")])

    def test_point_102_inherited_values(self):
        self.page.set_own(1, "size", 3)
        self.assertEqual(self.engine.refresh().laid, needed(self.page, computed(self.page)))
        self.page.set_own(1, "color", 3)
        self.assertEqual(self.laid(), [])


class Damage(unittest.TestCase):
    """Point 104."""

    def setUp(self):
        # 2 box, 3 box, 4 box
        self.page = styled_page(
            20, 20, box(background=2, height=3, width=5), box(background=3, height=4, width=5),
            box(background=4, height=5, width=5),
        )
        self.engine = refreshed(self.page)

    def damage(self):
        return self.engine.refresh().damage

    def test_point_104_a_color(self):
        self.page.set_own(3, "background", 9)
        self.assertEqual(self.damage(), [(0, 3, 5, 4)])
        self.assertEqual(self.engine.pixel(4, 6), 9)

    def test_point_104_everything_between_the_common_ends(self):
        self.page.set_own(2, "background", 9)
        self.page.set_own(4, "background", 9)
        self.assertEqual(self.damage(), [(0, 0, 5, 12)])

    def test_point_104_old_and_new_places(self):
        self.page.set_own(4, "margin_left", 7)
        self.assertEqual(self.damage(), [(0, 7, 5, 5), (7, 7, 5, 5)])
        self.page.set_own(4, "margin_left", 3)
        self.assertEqual(self.damage(), [(3, 7, 9, 5)])

    def test_point_104_cut_to_the_window(self):
        self.page.set_own(4, "height", 50)
        self.assertEqual(self.damage(), [(0, 7, 5, 13)])
        self.page.set_own(4, "margin_top", 30)
        self.assertEqual(self.damage(), [(0, 7, 5, 13)])
        self.page.set_own(4, "background", 9)
        self.assertEqual(self.damage(), [])

    def test_point_104_edits_that_show_nothing(self):
        self.page.insert_box(1, 3, "a")
        self.page.set_own(3, "border_color", 9)
        self.page.set_own(3, "background", 3)
        self.assertEqual(self.damage(), [])

    def test_point_104_edits_that_were_undone(self):
        self.page.set_own(3, "background", 9)
        self.page.remove(4)
        self.page.undo()
        self.page.undo()
        self.assertEqual(self.damage(), [])

    def test_point_104_a_change_of_the_window(self):
        self.page.set_own(3, "background", 9)
        for size in [(21, 20), (21, 19), (5, 5), (20, 20)]:
            self.page.resize(*size)
            self.assertEqual(self.damage(), [(0, 0, *size)])
            self.assertEqual(len(self.engine.shot((0, 0, 99, 99))), size[1])
        self.page.resize(0, 20)
        self.assertEqual(self.damage(), [])

    def test_point_104_a_window_that_is_the_same_again(self):
        self.page.resize(5, 5)
        self.page.resize(20, 20)
        self.assertEqual(self.damage(), [])
        self.page.resize(7, 7)
        self.page.undo()
        self.page.set_own(3, "background", 9)
        self.assertEqual(self.damage(), [(0, 3, 5, 4)])

    def test_point_104_items_that_change_their_order(self):
        self.page.set_own(2, "place", "shifted")
        self.page.set_own(2, "height", 9)
        self.page.set_own(3, "place", "shifted")
        self.page.set_own(3, "margin_top", 0)
        self.engine.refresh()
        self.page.set_own(2, "level", 1)
        # The box 4 lies lowest in any case.
        self.assertEqual(self.damage(), [(0, 0, 5, 13)])

    def test_point_104_the_region_of_ink(self):
        page = styled_page(30, 9, "ab cd ef")
        page.set_own(1, "size", 1)
        engine = refreshed(page)
        page.set_text(2, "ab xx ef")
        # The item of the first word is the same, and that of the last word, too.
        self.assertEqual(engine.refresh().damage, [])
        page.set_text(2, "ab mm ef")
        self.assertEqual(engine.refresh().damage, [(5, 0, 11, 1)])


class Several(unittest.TestCase):
    def test_point_100_two_engines_of_one_page(self):
        page = styled_page(20, 10, "a", box(background=3, height=5))
        first, second = refreshed(page), refreshed(page)
        before = (second.rectangles(), second.painted(), second.shot((0, 0, 20, 10)), second.caret(2, 1))
        page.set_own(3, "background", 4)
        page.set_text(2, "")
        page.resize(30, 15)
        first.refresh()
        self.assertEqual(
            (second.rectangles(), second.painted(), second.shot((0, 0, 20, 10)), second.caret(2, 1)), before,
        )
        self.assertEqual((first.pixel(0, 3), second.pixel(0, 3), first.pixel(29, 3), second.pixel(29, 3)), (4, 3, 4, 0))
        page.undo()
        report = second.refresh()
        self.assertEqual((report.styled, report.laid), ([3], [(2, 20, "auto"), (1, 20, "auto")]))
        self.assertEqual(first.shot((0, 0, 99, 99))[-1], [0] * 30)

    def test_point_100_a_duplicate_and_the_page(self):
        page = styled_page(20, 10, "a", box(background=3, height=5))
        other = page.duplicate()
        first, second = refreshed(page), refreshed(other)
        page.set_own(3, "background", 4)
        report = second.refresh()
        self.assertEqual((report.styled, report.laid, report.damage, second.pixel(0, 3)), ([], [], [], 3))
        other.set_own(3, "height", 1)
        self.assertEqual(first.refresh().styled, [3])
        self.assertEqual(first.rectangles()[3], (0, 2, 20, 5))
        self.assertEqual(Engine(other).refresh().styled, [1, 2, 3])
        self.assertIs(other.undo(), True)
        self.assertIs(other.undo(), False)
        self.assertEqual(second.refresh().styled, [3])

    def test_point_100_what_is_returned_belongs_to_the_caller(self):
        page = styled_page(20, 10, "a", box(background=3, height=5))
        engine = Engine(page)
        report = engine.refresh()
        report.laid.clear()
        report.styled.clear()
        report.damage.clear()
        report.laid = None
        self.assertEqual(engine.refresh().laid, [])
        before = copy.deepcopy((engine.rectangles(), engine.painted(), engine.shot((0, 0, 20, 10))))
        engine.rectangles().clear()
        engine.painted().clear()
        engine.shot((0, 0, 20, 10))[3][0] = 77
        engine.shot((0, 0, 20, 10)).clear()
        self.assertEqual((engine.rectangles(), engine.painted(), engine.shot((0, 0, 20, 10))), before)
        page.set_own(3, "background", 4)
        self.assertEqual(engine.refresh().damage, [(0, 2, 20, 5)])

    def test_point_6_refused_edits_change_nothing_for_an_engine(self):
        page = styled_page(20, 10, "a")
        engine = refreshed(page)
        for call in [lambda: page.set_own(1, "gap", -1), lambda: page.remove(1), lambda: page.resize(-1, 0)]:
            with self.assertRaises(ValueError):
                call()
        report = engine.refresh()
        self.assertEqual((report.laid, report.styled, report.damage), ([], [], []))


class LargePages(unittest.TestCase):
    def test_many_words(self):
        page = Page(1000, 1000)
        for _ in range(299):
            page.insert_text(1, 0, "ab i cd l " * 50)
        page.set_own(1, "size", 1)
        start = time.process_time()
        engine = refreshed(page)
        self.assertGreater(len(engine.painted()), 50000)
        for number in range(5):
            page.set_text(2 + number, "x" * number)
            self.assertEqual(len(engine.refresh().laid), 2)
        for k in range(0, 1000, 5):
            engine.hit(k, k % 40)
            engine.hits(k, k % 40)
        engine.shot((0, 0, 1000, 1000))
        self.assertEqual(len(engine.selected_text((300, 0), (2, 0)).split("\n")), 299)
        self.assertGreater(len(engine.selection((300, 0), (2, 0))), 50000)
        self.assertLess(time.process_time() - start, 30)

    def test_rows_deep_in_rows(self):
        page = tall_rows(27)
        start = time.process_time()
        engine = refreshed(page)
        deepest = [node for node in page.nodes() if page.kind(node) == "text"][0]
        before = needed(page, computed(page))
        page.set_text(deepest, "ab ef")
        path = [deepest]
        while path[-1] != 1:
            path.append(page.parent(path[-1]))
        self.assertEqual(engine.refresh().laid, [task for task in before if task[0] in path])
        self.assertEqual(engine.rectangles(), rectangles(page, computed(page)))
        self.assertEqual(engine.refresh().laid, [])
        self.assertLess(time.process_time() - start, 10)

    def test_boxes_over_the_whole_window(self):
        page = Page(1000, 1000)
        for _ in range(299):
            page.insert_box(1, 0, "a")
        page.set_rules([("a", {"place": "free", "width": 1000, "height": 1000, "border": 3, "background": 2})])
        start = time.process_time()
        engine = refreshed(page)
        for _ in range(3):
            page.set_own(2, "background", 5)
            engine.refresh()
            page.undo()
            engine.refresh()
        self.assertEqual((engine.pixel(500, 500), engine.hit(999, 999), len(engine.hits(7, 7))), (2, 2, 299))
        self.assertLess(time.process_time() - start, 30)


if __name__ == "__main__":
    unittest.main()
