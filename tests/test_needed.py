"""Point 87: the needed tasks and their order."""

import time
import unittest
from collections import Counter

from quirekiln.layout import lay, needed, rectangles
from quirekiln.page import Page
from quirekiln.styles import computed
from layouts import styled_page, tall_rows


def tasks(page):
    return needed(page, computed(page))


class Order(unittest.TestCase):
    def test_point_87_a_page_with_nothing_on_it(self):
        self.assertEqual(tasks(Page(100, 50)), [(1, 100, "auto")])
        self.assertEqual(tasks(Page(0, 0)), [(1, 0, "auto")])

    def test_point_87_the_width_of_the_root(self):
        page = Page(100, 50)
        page.set_own(1, "border", 20)
        page.set_own(1, "padding", 29)
        self.assertEqual(tasks(page), [(1, 100, "auto")])
        page.set_own(1, "padding", 31)
        self.assertEqual(tasks(page), [(1, 102, "auto")])
        for name in ("width", "least_width", "margin_left", "left"):
            page.set_own(1, name, 100)
        self.assertEqual(tasks(page), [(1, 102, "auto")])

    def test_point_87_what_is_required_is_finished_before(self):
        page = styled_page(100, 50, ({"width": 40}, ["a", ({"width": 30}, ["b"])]), "c", ({"display": "none"}, ["d"]))
        self.assertEqual(tasks(page), [
            (3, 40, "auto"), (5, 30, "auto"), (4, 30, "auto"), (2, 40, "auto"), (6, 100, "auto"), (1, 100, "auto"),
        ])

    def test_point_87_held_boxes_come_last(self):
        page = styled_page(100, 50, ({"place": "free", "width": 9}, ["a"]), ({}, ["b"]))
        self.assertEqual(tasks(page), [
            (5, 100, "auto"), (4, 100, "auto"), (3, 9, "auto"), (2, 9, "auto"), (1, 100, "auto"),
        ])

    def test_point_87_rows_in_rows(self):
        # 2 row of 30, 3 row, 4 row of 20, 5 row, 6 block
        deepest = ({"display": "row"}, [({"width": 1}, [])])
        middle = ({"display": "row", "height": 20}, [deepest])
        page = styled_page(100, 50, ({"display": "row", "height": 30}, [({"display": "row"}, [middle])]))
        self.assertEqual(tasks(page), [
            (6, 1, "auto"), (5, 1, "auto"), (6, 1, 20), (5, 1, 20), (4, 1, "auto"), (3, 1, "auto"), (3, 1, 30),
            (2, 100, "auto"), (1, 100, "auto"),
        ])

    def test_point_87_second_layouts_of_rows_in_rows(self):
        # Each row stretches the next one, which is laid out for each of its heights.
        inner = ({"display": "row"}, [({"width": 1}, [])])
        sketch = [({"display": "row"}, [inner]), ({"width": 1, "height": 5}, [])]
        page = styled_page(100, 50, ({"display": "row", "height": 9}, sketch))
        self.assertEqual(tasks(page), [
            (5, 1, "auto"), (4, 1, "auto"), (3, 1, "auto"), (6, 1, "auto"),
            (5, 1, 9), (4, 1, 9), (3, 1, 9), (2, 100, "auto"), (1, 100, "auto"),
        ])


class Numbers(unittest.TestCase):
    def test_point_87_no_task_twice_and_at_most_32_of_a_node(self):
        page = tall_rows(27)
        styles = computed(page)
        start = time.process_time()
        found = needed(page, styles)
        rects = rectangles(page, styles)
        self.assertLess(time.process_time() - start, 2)
        self.assertEqual(len(set(found)), len(found))
        most = max(Counter(task[0] for task in found).values())
        self.assertTrue(20 <= most <= 32, most)
        self.assertEqual(len(rects), len(page.nodes()))

    def test_tasks_of_nodes_deep_in_the_page_come_promptly(self):
        page = tall_rows(27)
        styles = computed(page)
        start = time.process_time()
        for node in page.nodes():
            lay(page, styles, node, 500, "auto")
        self.assertLess(time.process_time() - start, 10)

    def test_long_texts_come_promptly(self):
        page = Page(1000, 1000)
        for _ in range(299):
            page.insert_text(1, 0, "ab cde " * 71)
        styles = computed(page)
        start = time.process_time()
        self.assertEqual(len(needed(page, styles)), 300)
        self.assertEqual(len(rectangles(page, styles)), 300)
        self.assertLess(time.process_time() - start, 5)

    def test_point_3_a_new_list_each_time(self):
        page = styled_page(10, 10, "a")
        styles = computed(page)
        needed(page, styles).clear()
        self.assertEqual(len(needed(page, styles)), 2)


if __name__ == "__main__":
    unittest.main()
