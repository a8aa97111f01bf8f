"""Points 20 to 24 and 27: the tree, the edits and the value of a page."""

import random
import unittest

from quirekiln.page import Page
from pages import assert_consistent, chain_page, edit_at_random, page_of, some_pages, wide_page

READERS = ["kind", "parent", "children", "name", "text", "marks", "own", "scroll", "depth"]


def readings(page):
    """What all reading methods return."""
    told = {name: [getattr(page, name)(node) for node in page.nodes()] for name in READERS}
    return told, page.nodes(), page.rules(), page.snapshot(), page.width, page.height


class NewPage(unittest.TestCase):
    def test_points_20_and_21_a_new_page_has_the_root_alone(self):
        page = Page(3, 7)
        self.assertEqual((page.width, page.height), (3, 7))
        self.assertEqual(page.nodes(), [1])
        self.assertEqual((page.kind(1), page.name(1), page.text(1)), ("box", "page", ""))
        self.assertEqual((page.parent(1), page.depth(1), page.children(1)), (0, 1, []))
        self.assertEqual((page.marks(1), page.own(1), page.scroll(1), page.rules()), ((), {}, (0, 0), []))

    def test_point_20_the_window_from_0_to_1000(self):
        for width, height in [(0, 0), (1000, 1000), (0, 1000), (1, 999)]:
            page = Page(width, height)
            self.assertEqual((page.width, page.height), (width, height))
            page = Page(5, 5)
            page.resize(width, height)
            self.assertEqual((page.width, page.height), (width, height))
            self.assertEqual(page.snapshot()[:2], (width, height))

    def test_point_20_the_attributes_are_set_on_the_object(self):
        self.assertEqual([vars(Page(3, 4))[name] for name in ("width", "height")], [3, 4])


class Ids(unittest.TestCase):
    def test_point_20_ids_in_order(self):
        page = Page(1, 1)
        found = [page.insert_box(1, 0, "a"), page.insert_text(1, 0, ""), page.insert_box(2, 0, "b")]
        self.assertEqual(found, [2, 3, 4])
        for node in found:
            self.assertIs(isinstance(node, int), True)

    def test_point_20_removed_ids_are_not_given_again(self):
        page = page_of(("a", ["x", "y"]), "z")
        page.remove(2)
        self.assertEqual(page.insert_box(1, 0, "a"), 6)
        page.remove(6)
        self.assertEqual(page.insert_text(1, 0, "a"), 7)

    def test_points_20_and_26_ids_are_not_given_again_after_undo(self):
        page = Page(1, 1)
        self.assertEqual(page.insert_box(1, 0, "a"), 2)
        page.undo()
        self.assertEqual(page.insert_box(1, 0, "a"), 3)
        page.undo()
        page.undo()
        self.assertEqual(page.insert_text(1, 0, "a"), 4)
        self.assertEqual(page.nodes(), [1, 4])

    def test_points_20_and_26_redo_gives_the_same_id_and_the_counter_goes_on(self):
        page = Page(1, 1)
        page.insert_box(1, 0, "a")
        page.undo()
        page.redo()
        self.assertEqual(page.nodes(), [1, 2])
        self.assertEqual(page.insert_box(1, 0, "a"), 3)

    def test_point_20_refused_insertions_use_no_id(self):
        page = Page(1, 1)
        for call in [lambda: page.insert_box(1, 5, "a"), lambda: page.insert_box(1, 0, "A"),
                     lambda: page.insert_text(1, 0, "\t"), lambda: page.insert_text(9, 0, "")]:
            self.assertRaises(ValueError, call)
        self.assertEqual(page.insert_box(1, 0, "a"), 2)


class Inserting(unittest.TestCase):
    def test_point_24_at_the_beginning_in_the_middle_and_at_the_end(self):
        page = Page(1, 1)
        page.insert_box(1, 0, "a")
        page.insert_box(1, 1, "b")
        self.assertEqual(page.children(1), [2, 3])
        page.insert_text(1, 0, "c")
        self.assertEqual(page.children(1), [4, 2, 3])
        page.insert_text(1, 2, "d")
        self.assertEqual(page.children(1), [4, 2, 5, 3])
        page.insert_box(1, 4, "e")
        self.assertEqual(page.children(1), [4, 2, 5, 3, 6])
        self.assertEqual([page.parent(node) for node in page.children(1)], [1] * 5)

    def test_point_22_boxes(self):
        page = Page(1, 1)
        node = page.insert_box(1, 0, "abcdefghijkl", marks=["z", "a", "mm", "a", "z"])
        self.assertEqual((page.kind(node), page.name(node), page.text(node)), ("box", "abcdefghijkl", ""))
        self.assertEqual(page.marks(node), ("a", "mm", "z"))
        self.assertEqual((page.own(node), page.scroll(node), page.children(node)), ({}, (0, 0), []))

    def test_point_22_texts(self):
        page = Page(1, 1)
        for string in ["", " ", "\n", "some words\nand more\n\n", "~" * 500, "\n" * 500]:
            node = page.insert_text(1, 0, string)
            self.assertEqual((page.kind(node), page.name(node), page.text(node)), ("text", "", string))
            self.assertEqual((page.marks(node), page.own(node), page.scroll(node)), ((), {}, (0, 0)))
            self.assertEqual(page.children(node), [])

    def test_point_22_marks_as_a_list_or_tuple_with_duplicates(self):
        page = Page(1, 1)
        letters = list("hgfedcba")
        for marks in [letters, tuple(letters), letters + letters, tuple(letters * 3)]:
            node = page.insert_box(1, 0, "a", marks=marks)
            self.assertEqual(page.marks(node), tuple("abcdefgh"))
            page.set_marks(node, [])
            self.assertEqual(page.marks(node), ())
            page.set_marks(node, marks)
            self.assertEqual(page.marks(node), tuple("abcdefgh"))
        self.assertEqual(page.marks(page.insert_box(1, 0, "a")), ())

    def test_point_21_another_box_may_be_called_page(self):
        page = Page(1, 1)
        self.assertEqual(page.name(page.insert_box(1, 0, "page")), "page")


class Removing(unittest.TestCase):
    def test_point_24_everything_below_goes_too(self):
        page = page_of(("a", [("b", ["x", ("c", ["y"])]), "z"]), ("d", []))
        page.remove(3)
        self.assertEqual(page.nodes(), [1, 2, 7, 8])
        self.assertEqual(page.children(2), [7])
        for node in [3, 4, 5, 6]:
            for name in READERS:
                self.assertRaises(ValueError, getattr(page, name), node)
        assert_consistent(self, page)

    def test_point_24_the_neighbors_stay(self):
        for gone in [2, 3, 4]:
            page = page_of("x", ("a", []), "y")
            page.remove(gone)
            self.assertEqual(page.children(1), [node for node in [2, 3, 4] if node != gone])


class Moving(unittest.TestCase):
    def test_point_24_within_the_parent_the_index_is_counted_without_the_node(self):
        for node in [2, 3, 4]:
            for index in [0, 1, 2]:
                page = page_of("x", ("a", []), "y")
                page.move(node, 1, index)
                expected = [other for other in [2, 3, 4] if other != node]
                expected.insert(index, node)
                self.assertEqual(page.children(1), expected)
                assert_consistent(self, page)

    def test_point_24_into_another_box(self):
        for index in [0, 1, 2]:
            page = page_of(("a", [("b", ["x"]), "y"]), ("c", ["z", "w"]))
            page.move(3, 6, index)
            expected = [7, 8]
            expected.insert(index, 3)
            self.assertEqual((page.children(6), page.children(2), page.children(3)), (expected, [5], [4]))
            self.assertEqual((page.parent(3), page.depth(4)), (6, 4))
            assert_consistent(self, page)

    def test_point_24_upwards_and_downwards(self):
        page = page_of(("a", [("b", [("c", ["x"])])]))
        page.move(4, 1, 0)
        self.assertEqual(page.nodes(), [1, 4, 5, 2, 3])
        page.move(2, 4, 1)
        self.assertEqual(page.nodes(), [1, 4, 5, 2, 3])
        self.assertEqual((page.children(1), page.children(4), page.depth(3)), ([4], [5, 2], 4))

    def test_point_24_into_its_parent_again(self):
        page = page_of(("a", ["x"]))
        before = page.snapshot()
        page.move(3, 2, 0)
        self.assertEqual(page.snapshot(), before)

    def test_point_22_what_a_node_has_moves_with_it(self):
        page = page_of(("a.m", ["x"]), ("b", []))
        page.set_own(2, "gap", 5)
        page.scroll_to(2, 3, 4)
        page.move(2, 4, 0)
        told = (page.name(2), page.marks(2), page.own(2), page.scroll(2), page.children(2), page.text(3))
        self.assertEqual(told, ("a", ("m",), {"gap": 5}, (3, 4), [3], "x"))


class Setting(unittest.TestCase):
    def setUp(self):
        self.page = page_of(("a.m", ["x"]))

    def test_point_24_texts(self):
        for string in ["", "new\nwords", " !~", "a" * 500]:
            self.page.set_text(3, string)
            self.assertEqual(self.page.text(3), string)

    def test_point_24_own_properties(self):
        self.page.set_own(2, "width", ("part", 30))
        self.page.set_own(2, "align", "full")
        self.assertEqual(self.page.own(2), {"width": ("part", 30), "align": "full"})
        self.page.set_own(2, "width", 5)
        self.assertEqual(self.page.own(2), {"width": 5, "align": "full"})
        self.assertEqual(self.page.snapshot()[3][1][5], (("align", "full"), ("width", 5)))
        self.page.clear_own(2, "align")
        self.assertEqual(self.page.own(2), {"width": 5})
        self.page.clear_own(2, "level")
        self.assertEqual(self.page.own(2), {"width": 5})

    def test_point_24_the_first_value_is_set_like_any_other(self):
        self.page.set_own(2, "gap", 0)
        self.assertEqual(self.page.own(2), {"gap": 0})

    def test_point_24_the_root_is_set_like_any_box(self):
        self.page.set_marks(1, ["r"])
        self.page.set_own(1, "display", "none")
        self.page.scroll_to(1, 1, 2)
        self.assertEqual(self.page.snapshot()[3][0][4:], (("r",), (("display", "none"),), (1, 2)))

    def test_point_22_scroll_positions(self):
        for x, y in [(0, 10000), (10000, 0), (5, 6), (0, 0)]:
            self.page.scroll_to(2, x, y)
            self.assertEqual(self.page.scroll(2), (x, y))
            self.assertIs(isinstance(self.page.scroll(2), tuple), True)

    def test_point_24_each_edit_sets_one_thing_and_returns_none(self):
        calls = [
            lambda: self.page.set_text(3, "y"), lambda: self.page.set_marks(2, ["n"]),
            lambda: self.page.set_own(2, "gap", 7), lambda: self.page.clear_own(2, "gap"),
            lambda: self.page.set_rules([("a", {})]), lambda: self.page.scroll_to(2, 8, 9),
            lambda: self.page.resize(11, 12),
        ]
        for call in calls:
            before = flat(self.page.snapshot())
            self.assertIs(call(), None)
            changed = [key for key, value in flat(self.page.snapshot()).items() if before[key] != value]
            self.assertIn(changed, [["width", "height"], ["rules"], [(3, 3)], [(2, 4)], [(2, 5)], [(2, 6)]])
        self.assertIs(self.page.move(3, 1, 0), None)
        self.assertIs(self.page.remove(3), None)


def flat(snapshot):
    """The parts of a snapshot, each under a key of its own."""
    parts = {"width": snapshot[0], "height": snapshot[1], "rules": snapshot[2]}
    for row in snapshot[3]:
        for at, value in enumerate(row):
            parts[row[0], at] = value
    return parts


class Order(unittest.TestCase):
    def test_point_23_document_order_and_depth(self):
        page = page_of(("a", [("b", ["x"]), "y"]), "z", ("c", [("d", [])]))
        self.assertEqual(page.nodes(), [1, 2, 3, 4, 5, 6, 7, 8])
        self.assertEqual([page.depth(node) for node in page.nodes()], [1, 2, 3, 4, 3, 2, 2, 3])
        page.move(7, 2, 1)
        self.assertEqual(page.nodes(), [1, 2, 3, 4, 7, 8, 5, 6])
        self.assertEqual([page.depth(node) for node in page.nodes()], [1, 2, 3, 4, 3, 4, 3, 2])

    def test_point_23_depth_30_and_300_nodes(self):
        page = chain_page(30)
        self.assertEqual([page.depth(node) for node in page.nodes()], list(range(1, 31)))
        page = wide_page(300)
        self.assertEqual(page.nodes(), [1] + list(range(300, 1, -1)))
        assert_consistent(self, page)

    def test_points_20_to_27_random_edits(self):
        for page in some_pages(40, 60):
            assert_consistent(self, page)


class Value(unittest.TestCase):
    def test_point_27_the_value(self):
        page = Page(30, 40)
        self.assertEqual(page.snapshot(), (30, 40, (), ((1, 0, "box", "page", (), (), (0, 0)),)))
        page.insert_text(1, 0, "x\ny")
        page.insert_box(1, 0, "a", marks=("n", "m"))
        page.set_own(3, "width", ("part", 1))
        page.set_own(3, "color", 9)
        page.scroll_to(3, 6, 5)
        page.set_rules([("a b", {"width": 7, "align": "left"}), ("*", {})])
        page.resize(20, 10)
        rules = (("a b", (("align", "left"), ("width", 7))), ("*", ()))
        rows = (
            (1, 0, "box", "page", (), (), (0, 0)),
            (3, 1, "box", "a", ("m", "n"), (("color", 9), ("width", ("part", 1))), (6, 5)),
            (2, 1, "text", "x\ny", (), (), (0, 0)),
        )
        self.assertEqual(page.snapshot(), (20, 10, rules, rows))

    def test_point_27_everything_in_it_is_a_tuple(self):
        page = page_of(("a.m", ["x"]))
        page.set_rules([["a", {"gap": 1}]])
        page.set_own(2, "gap", 1)
        # Only what contains no list and no dict has a hash.
        self.assertIs(isinstance(hash(page.snapshot()), int), True)

    def test_point_27_the_counter_and_the_steps_are_no_part_of_it(self):
        page = Page(5, 5)
        before = page.snapshot()
        page.insert_box(1, 0, "a")
        page.undo()
        self.assertEqual(page.snapshot(), before)
        page.resize(5, 5)
        self.assertEqual(page.snapshot(), before)

    def test_point_43_rules_as_they_were_set(self):
        page = Page(1, 1)
        given = [("b.z.a", {"width": "auto", "gap": 3}), ("a", {}), ("a", {}), ("a > b c", {"level": -100})]
        page.set_rules(given)
        self.assertEqual(page.rules(), given)
        for rule in page.rules():
            self.assertEqual((rule.__class__, rule[1].__class__), (tuple, dict))
        page.set_rules([])
        self.assertEqual((page.rules(), page.snapshot()[2]), ([], ()))

    def test_point_43_thirty_rules(self):
        page = Page(1, 1)
        page.set_rules([("a", {"gap": number}) for number in range(30)])
        self.assertEqual([given["gap"] for selector, given in page.rules()], list(range(30)))


class Ownership(unittest.TestCase):
    def setUp(self):
        self.page = page_of(("a.m", ["x"]))
        self.page.set_own(2, "gap", 3)
        self.page.set_rules([("a", {"gap": 4})])

    def test_point_3_changing_what_was_returned(self):
        before = readings(self.page)
        self.page.children(1).clear()
        self.page.children(3).append(1)
        self.page.own(2)["gap"] = 9
        self.page.own(1)["gap"] = 9
        self.page.own(3)["gap"] = 9
        self.page.nodes().append(9)
        self.page.rules()[0][1]["gap"] = 9
        self.page.rules().clear()
        self.assertEqual(readings(self.page), before)

    def test_point_3_each_list_and_dict_is_a_new_one(self):
        calls = [lambda: self.page.children(1), lambda: self.page.own(2), lambda: self.page.nodes(),
                 lambda: self.page.rules(), lambda: self.page.rules()[0][1]]
        for call in calls:
            self.assertEqual(call(), call())
            self.assertIsNot(call(), call())

    def test_point_3_changing_what_was_handed_in(self):
        marks, given = ["b", "a", "b"], {"gap": 5}
        rules = [["a", given], ("b", {})]
        node = self.page.insert_box(1, 0, "a", marks=marks)
        self.page.set_marks(2, marks)
        self.page.set_rules(rules)
        before = readings(self.page)
        self.assertEqual((marks, rules, given), (["b", "a", "b"], [["a", {"gap": 5}], ("b", {})], {"gap": 5}))
        marks.append("c")
        given["gap"] = 6
        given["oops"] = 7
        rules[0][0] = "c"
        rules.append(("d", {}))
        self.assertEqual(readings(self.page), before)
        self.assertEqual(self.page.marks(node), ("a", "b"))
        self.page.undo()
        self.page.redo()
        self.assertEqual(readings(self.page), before)

    def test_point_3_a_value_that_was_returned_does_not_change_later(self):
        told = readings(self.page)
        kept = repr(told)
        self.page.set_own(2, "gap", 90)
        self.page.set_marks(2, [])
        self.page.insert_text(1, 0, "more")
        self.page.set_rules([])
        self.page.resize(1, 1)
        self.assertEqual(repr(told), kept)

    def test_point_3_reading_changes_nothing(self):
        self.page.undo()
        before = readings(self.page)
        self.assertEqual(readings(self.page), before)
        self.assertIs(self.page.redo(), True)


class Duplicates(unittest.TestCase):
    def setUp(self):
        self.page = page_of(("a.m", ["x", ("b", [])]))
        self.page.set_own(2, "gap", 3)
        self.page.set_rules([("a", {"gap": 4})])
        self.page.scroll_to(2, 1, 2)
        self.page.resize(8, 9)
        self.page.remove(4)

    def test_point_27_the_same_value_and_no_steps(self):
        self.page.undo()
        other = self.page.duplicate()
        self.assertIs(other.__class__, Page)
        self.assertEqual(readings(other), readings(self.page))
        self.assertEqual((other.undo(), other.redo()), (False, False))
        self.assertEqual(readings(other), readings(self.page))
        self.assertIs(self.page.redo(), True)

    def test_point_20_the_same_counter(self):
        self.page.insert_box(1, 0, "c")
        self.page.undo()
        other = self.page.duplicate()
        self.assertEqual(self.page.insert_box(1, 0, "c"), 6)
        self.assertEqual(other.insert_box(1, 0, "c"), 6)

    def test_point_3_they_do_not_touch_each_other(self):
        source = random.Random(5)
        for first, second in [(self.page, self.page.duplicate()), (self.page.duplicate(), self.page)]:
            kept = readings(second)
            for _ in range(60):
                edit_at_random(first, source)
            self.assertEqual(readings(second), kept)
            while first.undo():
                pass
            self.assertEqual(readings(second), kept)

    def test_point_26_undo_in_one_leaves_the_other(self):
        other = self.page.duplicate()
        before = readings(other)
        self.page.undo()
        self.assertEqual(readings(other), before)
        other.insert_text(2, 0, "new")
        other.undo()
        self.assertEqual(readings(other), before)
        self.assertEqual(self.page.nodes(), [1, 2, 3, 4])

    def test_point_3_a_duplicate_of_a_duplicate(self):
        first = self.page.duplicate()
        second = first.duplicate()
        first.set_marks(2, [])
        self.assertEqual((self.page.marks(2), second.marks(2)), (("m",), ("m",)))


if __name__ == "__main__":
    unittest.main()
