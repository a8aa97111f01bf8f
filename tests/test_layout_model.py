"""Points 70 to 89 on random pages, against the model; nothing that is passed is changed."""

import copy
import unittest

from quirekiln.layout import lay, needed, rectangles, scrolled
from quirekiln.styles import computed, shown
from layouts import LAYOUT_VALUES, Model, random_trees

SCROLLING = {
    **{name: LAYOUT_VALUES[name] for name in ("place", "left", "padding", "border", "margin_left", "margin_bottom")},
    "display": ["block", "row", "grid"], "clip": ["scroll"], "height": ["auto", 5, 9], "width": ["auto", 9, 30],
}


class Layouts(unittest.TestCase):
    def check(self, pages):
        scrolls = 0
        for page in pages:
            styles = computed(page)
            before, value = copy.deepcopy(styles), page.snapshot()
            model = Model(page, styles)
            self.assertEqual(needed(page, styles), model.needed())
            self.assertEqual(rectangles(page, styles), model.rectangles())
            self.assertEqual(list(rectangles(page, styles)), shown(page, styles))
            for node in model.shown:
                self.assertEqual(scrolled(page, styles, node), model.scrolled(node))
                scrolls += model.scrolled(node) != (0, 0)
                for width, height in [(0, "auto"), (13, "auto"), (77, "auto"), (40, 0), (40, 19)]:
                    if page.kind(node) == "box" or height == "auto":
                        self.assertEqual(lay(page, styles, node, width, height), model.lay(node, width, height)[:2])
            self.assertEqual((styles, page.snapshot()), (before, value))
        return scrolls

    def test_small_pages(self):
        self.check(random_trees(150, 8))

    def test_large_pages(self):
        self.check(random_trees(40, 60, seed=2))

    def test_pages_that_scroll(self):
        self.assertGreater(self.check(random_trees(200, 20, seed=3, values=SCROLLING)), 30)

    def test_rows_in_rows(self):
        values = {**LAYOUT_VALUES, "display": ["row"], "height": ["auto", "auto", 30]}
        self.check(random_trees(40, 40, seed=4, values=values))


if __name__ == "__main__":
    unittest.main()
