"""Points 75 and 86: the boxes that a box holds."""

import unittest

from quirekiln.layout import lay, needed, rectangles
from quirekiln.styles import computed, shown
from layouts import styled_page


def free(*sketch, **style):
    """A free box."""
    return ({"place": "free", **style}, list(sketch))


def held(more, *sketch, width=100):
    """The places in the result of a task of the box 2, which holds free boxes."""
    page = styled_page(300, 300, ({"place": "shifted", "size": 1, **more}, sketch))
    return lay(page, computed(page), 2, width, "auto")[1]


class Holders(unittest.TestCase):
    def holders(self, page, *nodes):
        """For each node, the boxes in whose tasks it has a place."""
        styles = computed(page)
        found = []
        for node in nodes:
            found.append([
                box for box in shown(page, styles)
                if page.kind(box) == "box" and node in [place[0] for place in lay(page, styles, box, 90, "auto")[1]]
            ])
        return found

    def test_point_75_the_nearest_ancestor_whose_place_is_not_flow(self):
        page = styled_page(
            100, 100,
            ({}, [({"place": "shifted"}, [({}, [free()]), free()]), free(({}, [free()]))]),
        )
        # 1 page, 2 flow, 3 shifted, 4 flow, 5 free, 6 free, 7 free, 8 flow, 9 free
        self.assertEqual(self.holders(page, 5, 6, 7, 9), [[3], [3], [1], [7]])
        self.assertEqual(self.holders(page, 2, 3, 4, 8), [[1], [2], [3], [7]])

    def test_point_75_hidden_boxes_are_held_by_nobody(self):
        page = styled_page(100, 100, ({"display": "none"}, [free()]), free(display="none"), free())
        self.assertEqual(self.holders(page, 5), [[1]])
        self.assertEqual([place[0] for place in lay(page, computed(page), 1, 9, "auto")[1]], [5])

    def test_point_76_after_the_flow_children_in_document_order(self):
        places = held({}, ({}, [free(width=1), "x"]), free(width=2), "a", ({}, [({}, [free(width=3)])]), free(width=4))
        # 3 flow, 4 free, 5 text, 6 free, 7 text, 8 flow, 9 flow, 10 free, 11 free
        self.assertEqual([place[0] for place in places], [3, 7, 8, 4, 6, 10, 11])

    def test_point_86_laid_out_after_the_second_layouts(self):
        row = ({"display": "row", "place": "shifted", "height": 9}, [free(width=5), ({"width": 4}, [])])
        page = styled_page(100, 100, row)
        self.assertEqual(needed(page, computed(page)), [
            (4, 4, "auto"), (4, 4, 9), (3, 5, "auto"), (2, 100, "auto"), (1, 100, "auto"),
        ])


class Sizes(unittest.TestCase):
    def test_point_86_automatic_widths_by_the_room(self):
        def width(left, room):
            return held({}, free("ab cd ef", left=left), width=room)[0][3]
        # The measures are 4 and 14.
        self.assertEqual([width(0, room) for room in (0, 3, 4, 5, 13, 14, 15, 100)], [4, 4, 4, 5, 13, 14, 14, 14])
        self.assertEqual([width(10, room) for room in (0, 13, 14, 15, 23, 24, 25)], [4, 4, 4, 5, 13, 14, 14])
        self.assertEqual([width(-10, room) for room in (0, 3, 4, 5)], [10, 13, 14, 14])

    def test_point_86_the_room_is_within_the_border(self):
        self.assertEqual(held({"border": 3, "padding": 50}, free("ab cd ef"), width=106)[0][3], 14)
        self.assertEqual(held({"border": 3, "padding": 50}, free("ab cd ef"), width=16)[0][3], 10)
        self.assertEqual(held({"border": 3}, free("ab cd ef"), width=2)[0][3], 4)

    def test_point_86_the_room_is_at_least_0(self):
        self.assertEqual(held({"border": 3}, free("ab cd ef", left=-10), width=2)[0][3], 10)
        self.assertEqual(held({"border": 3}, free("ab cd ef", left=-10), width=8)[0][3], 12)

    def test_point_86_numbers_and_parts(self):
        def width(value, **more):
            return held({"border": 2, "padding": 7}, free(width=value, left=30, **more), width=105)[0][3]
        self.assertEqual([width(0), width(50), width(400)], [0, 50, 400])
        self.assertEqual([width(("part", n)) for n in (0, 33, 100)], [0, 33, 101])
        self.assertEqual([width(50, most_width=9), width(50, least_width=60)], [9, 60])
        self.assertEqual(width(("part", 1), padding=4), 8)

    def test_point_86_positions_within_the_border(self):
        sketch = [free(width=5, height=6, left=-20, top=-30), free(width=1, left=8, top=9)]
        self.assertEqual(held({"border": 3, "padding": 4}, *sketch), [(3, -17, -27, 5, 6), (4, 11, 12, 1, 0)])

    def test_point_86_margins_count_for_nothing(self):
        margins = {"margin_left": 9, "margin_right": 9, "margin_top": 9, "margin_bottom": 9}
        self.assertEqual(held({}, free("ab cd", **margins)), held({}, free("ab cd")))
        self.assertEqual(held({}, free(width=("part", 50), **margins)), held({}, free(width=("part", 50))))

    def test_point_86_the_height_of_the_holder_does_not_depend_on_them(self):
        page = styled_page(100, 100, ({"place": "shifted"}, [free("ab", height=50)]))
        self.assertEqual(lay(page, computed(page), 2, 60, "auto")[0], 0)

    def test_point_86_a_free_row_and_a_free_grid(self):
        self.assertEqual(held({}, free("ab", "cd", display="row", gap=3))[0], (3, 0, 0, 11, 1))
        self.assertEqual(held({}, free("ab", "cd e", "f", display="grid", gap=3))[0], (3, 0, 0, 14, 5))

    def test_point_86_holders_at_a_distance(self):
        # The holder 2 has a border of 1; the box in between moves nothing.
        between = ({"padding": 20}, [free(width=5, left=2, top=3)])
        page = styled_page(100, 100, ({"place": "shifted", "border": 1, "margin_top": 10}, [between]))
        self.assertEqual(rectangles(page, computed(page))[4], (3, 14, 5, 0))

    def test_point_86_the_root_as_holder(self):
        page = styled_page(100, 80, ({"padding": 9}, [free(width=("part", 100), left=-4, top=5)]))
        page.set_own(1, "border", 2)
        page.set_own(1, "padding", 3)
        self.assertEqual(rectangles(page, computed(page))[3], (-2, 7, 96, 0))


if __name__ == "__main__":
    unittest.main()
