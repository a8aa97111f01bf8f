"""Points 2 and 100 to 125 on pages that are edited at random, against the model."""

import copy
import random
import unittest

from quirekiln.engine import Engine
from quirekiln.layout import needed, rectangles
from quirekiln.page import Page
from quirekiln.painting import painted_items
from quirekiln.pixels import color_at, paint
from quirekiln.styles import computed
from edits import Editor
from helper import cells_of, region_of
from layouts import PAINT_VALUES, random_tree, LAYOUT_VALUES
from paints import Painter, changed, covers, last_color


class Watched:
    """An engine, and what the model says of it as of its last refresh."""

    def __init__(self, test, page, editor):
        self.test, self.page, self.editor = test, page, editor
        self.engine = Engine(page)
        self.seen = False
        self.items, self.window, self.colors = [], None, {}
        self.needed, self.values, self.styles, self.log = [], {}, {}, 0

    def refresh(self):
        test, page = self.test, self.page
        report = self.engine.refresh()
        styles = computed(page)
        self.model = Painter(page, styles)
        items, tasks = self.model.painted(), self.model.needed()
        values = {node: self.model.layout_value(node) for node in self.model.shown}
        window = (page.width, page.height)
        test.assertEqual(report.laid, [
            task for task in tasks if task not in self.needed or values[task[0]] != self.values.get(task[0])
        ])
        test.assertEqual(report.styled, self.expected_styled())
        for node in self.styles:
            if node in styles and node not in report.styled:
                test.assertEqual(styles[node], self.styles[node])
        area = cells_of([(0, 0, *window)])
        damaged = area & cells_of([item[1] for item in changed(self.items, items)])
        if not self.seen or window != self.window:
            damaged = area
        test.assertEqual(report.damage, region_of(damaged))
        colors = {cell: last_color(items, *cell) for cell in area}
        for cell in area - damaged:
            test.assertEqual(colors[cell], self.colors[cell])
        self.items, self.needed, self.values, self.styles = items, tasks, values, styles
        self.window, self.colors, self.log, self.seen = window, colors, len(self.editor.log), True
        report.laid.append("x")
        report.styled.clear()
        report.damage.append((0, 0, 1, 1))
        self.texts = {node: page.text(node) for node in self.model.shown if self.model.is_text(node)}
        self.rects = self.model.rectangles()
        self.check_functions(styles)
        self.ends = self.some_ends()
        self.told = [
            (first, last, self.model.selection(first, last), self.model.selected_text(first, last))
            for first, last in self.ends
        ]

    def expected_styled(self):
        if not self.seen:
            return self.page.nodes()
        marked = set().union(*self.editor.log[self.log:])
        return [node for node in self.page.nodes() if node in marked]

    def check_functions(self, styles):
        """The functions that start from the page alone tell the same as the model."""
        before = copy.deepcopy(styles)
        rects = rectangles(self.page, styles)
        self.test.assertEqual(rects, self.rects)
        self.test.assertEqual(needed(self.page, styles), self.needed)
        self.test.assertEqual(painted_items(self.page, styles, rects), self.items)
        self.test.assertEqual((styles, rects), (before, self.rects))

    def check(self):
        """The engine tells what it was at the last refresh, whatever has been edited since."""
        test, engine = self.test, self.engine
        test.assertEqual(engine.rectangles(), self.rects)
        test.assertEqual(engine.painted(), self.items)
        width, height = self.window
        rows = [[self.colors[x, y] for x in range(width)] for y in range(height)]
        test.assertEqual(engine.shot((-5, -5, width + 9, height + 9)), rows if width else [])
        test.assertEqual(engine.shot((3, 4, 5, 6)), [row[3:8] for row in rows[4:10]] if width > 3 else [])
        for x in range(-2, width + 2, 3):
            for y in range(-2, height + 2, 3):
                covering = [item[3] for item in self.items if covers(item[1], x, y)][::-1]
                if (x, y) not in self.colors:
                    covering = []
                test.assertEqual(engine.pixel(x, y), self.colors.get((x, y), 0))
                test.assertEqual(engine.hit(x, y), covering[0] if covering else 0)
                test.assertEqual(engine.hits(x, y), list(dict.fromkeys(covering)))
                test.assertEqual(color_at(self.items, x, y), last_color(self.items, x, y))
        test.assertEqual(paint(self.items, (-9, -8, 30, 20)), [
            [last_color(self.items, x, y) for x in range(-9, 21)] for y in range(-8, 12)
        ])
        for first, last, rects, string in self.told:
            test.assertEqual(engine.selection(first, last), rects)
            test.assertEqual(engine.selected_text(first, last), string)
            x, y, w, h = engine.caret(*first)
            test.assertEqual(w, 1)
            nearest = engine.index_at(first[0], x, y)
            test.assertEqual(engine.caret(first[0], nearest), (x, y, w, h))

    def some_ends(self):
        """A few pairs of ends of selections."""
        source, order, found = random.Random(self.log), list(self.texts), []
        for _ in range(4 if order else 0):
            pair = [source.choice(order) for _ in range(2)]
            found.append([(node, source.randint(0, len(self.texts[node]))) for node in pair])
        return found


class Sequences(unittest.TestCase):
    def run_sequence(self, page, seed, refreshes, most):
        source = random.Random(seed)
        editor = Editor(page, source)
        often, seldom = Watched(self, page, editor), Watched(self, page, editor)
        for number in range(refreshes):
            editor.steps(source.randint(0, most))
            often.refresh()
            if number % 3 == 0:
                seldom.refresh()
            often.check()
            editor.steps(source.randint(0, 1))
            often.check()
        seldom.check()

    def test_from_an_empty_page(self):
        for seed in range(12):
            self.run_sequence(Page(20, 15), seed, 12, 8)

    def test_from_random_trees(self):
        for seed in range(25):
            page = random_tree(random.Random(seed), 25, {**LAYOUT_VALUES, **PAINT_VALUES})
            page.resize(30, 25)
            # A duplicate has no steps that the editor does not know.
            self.run_sequence(page.duplicate(), seed, 8, 3)


if __name__ == "__main__":
    unittest.main()
