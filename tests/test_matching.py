"""Point 44: which boxes a selector matches."""

import random
import unittest

from quirekiln.errors import NoNode
from quirekiln.selectors import matches, parse_selector
from pages import WORDS, chain_page, page_of, some_pages


def chains(page, node, count):
    """All chains of this many boxes that end at a box, ancestors by ancestors."""
    if count == 1:
        return [[node]]
    found = []
    ancestor = page.parent(node)
    while ancestor:
        found += [chain + [node] for chain in chains(page, ancestor, count - 1)]
        ancestor = page.parent(ancestor)
    return found


def fits(page, box, step):
    """Whether a step matches a box, as the point says it."""
    joint, name, marks = step
    return (name == "*" or name == "" or name == page.name(box)) and set(marks) <= set(page.marks(box))


def model(page, node, steps):
    """Whether a selector matches a node: every chain is tried."""
    if page.kind(node) == "text":
        return False
    for chain in chains(page, node, len(steps)):
        joined = all(
            steps[k + 1][0] == " " or page.parent(chain[k + 1]) == chain[k] for k in range(len(chain) - 1)
        )
        if joined and all(fits(page, box, step) for box, step in zip(chain, steps)):
            return True
    return False


def matched(page, text):
    """The ids of the nodes that a selector matches."""
    return [node for node in page.nodes() if matches(page, node, parse_selector(text))]


class Matches(unittest.TestCase):
    def setUp(self):
        # 1 page, 2 a.x, 3 b.x.y, 4 text, 5 a, 6 b, 7 text, 8 a.y
        self.page = page_of(("a.x", [("b.x.y", ["one", ("a", [("b", ["two"])])])]), ("a.y", []))

    def test_point_44_one_step(self):
        expected = {
            "*": [1, 2, 3, 5, 6, 8], "a": [2, 5, 8], "b": [3, 6], "page": [1], "c": [], ".x": [2, 3], ".y": [3, 8],
            ".x.y": [3], ".y.x": [3], "a.x": [2], "a.y": [8], "b.y.x": [3], "a.x.y": [], ".z": [], "b.x.z": [],
        }
        for text, nodes in expected.items():
            self.assertEqual(matched(self.page, text), nodes, text)

    def test_point_44_ancestors_and_parents(self):
        expected = {
            "a b": [3, 6], "a > b": [3, 6], "page a": [2, 5, 8], "page > a": [2, 8], "a a": [5], "a > a": [],
            "b b": [6], "b > b": [], "* > *": [2, 3, 5, 6, 8], "* *": [2, 3, 5, 6, 8], "a.x b": [3, 6],
            "a.x > b": [3], ".x .x": [3], ".x > .x": [3], "* page": [], "* > page": [], "a.y *": [],
            "page > a > b > a": [5], "page a b a": [5], "page > a b > a": [5],
            "page > b": [], "a b a b": [6], "a > b > a > b": [6], "* * * *": [5, 6], "page > * > * b": [6],
        }
        for text, nodes in expected.items():
            self.assertEqual(matched(self.page, text), nodes, text)

    def test_point_44_kinds(self):
        self.assertIs(matches(self.page, 2, parse_selector("a")), True)
        self.assertIs(matches(self.page, 2, parse_selector("b")), False)
        self.assertIs(matches(self.page, 4, parse_selector("*")), False)

    def test_point_44_texts_are_never_matched(self):
        for text in ["*", ".x", "a", "* > *", "a b", "* *"]:
            for node in [4, 7]:
                self.assertIs(matches(self.page, node, parse_selector(text)), False, text)

    def test_point_44_no_such_node(self):
        for node in [0, -1, 9, 999]:
            with self.assertRaises(NoNode) as held:
                matches(self.page, node, parse_selector("*"))
            self.assertEqual(held.exception.value, node)

    def test_point_44_the_nearer_ancestor_leads_nowhere(self):
        # c stands below two boxes a: only the farther one is a child of b.
        page = page_of(("b", [("a", [("x", [("a", [("c", [])])])])]))
        self.assertEqual(matched(page, "b > a c"), [6])
        self.assertEqual(matched(page, "b > a > c"), [])
        self.assertEqual(matched(page, "page > b > a c"), [6])

    def test_point_44_the_farther_ancestor_leads_nowhere(self):
        page = page_of(("a", [("b", [("a", [("c", [])])])]))
        self.assertEqual(matched(page, "b > a c"), [5])
        self.assertEqual(matched(page, "b a > c"), [5])
        self.assertEqual(matched(page, "page > a > c"), [])
        self.assertEqual(matched(page, "page > a c"), [5])

    def test_point_44_one_box_is_not_two_steps(self):
        page = page_of(("a.m", []))
        for text in ["a .m", "a a", ".m .m", "a > .m", "page a a"]:
            self.assertEqual(matched(page, text), [], text)

    def test_point_44_all_selectors_with_two_or_three_steps_of_a_chain(self):
        # Names and joints such that the chain has to be tried in every way.
        page = page_of(("a", [("b", [("a", [("b", [("a", [("a", [("b", [])])])])])])]))
        names = ["a", "b", "*"]
        for first in names:
            for second in names:
                for third in names:
                    for joints in [(" ", " "), (" ", " > "), (" > ", " "), (" > ", " > ")]:
                        text = first + joints[0] + second + joints[1] + third
                        steps = parse_selector(text)
                        expected = [node for node in page.nodes() if model(page, node, steps)]
                        self.assertEqual(matched(page, text), expected, text)

    def test_point_44_after_edits_of_marks(self):
        steps = parse_selector("a.m > .n")
        page = page_of(("a", [("b", [])]))
        self.assertIs(matches(page, 3, steps), False)
        page.set_marks(2, ["k", "m"])
        self.assertIs(matches(page, 3, steps), False)
        page.set_marks(3, ("n",))
        self.assertIs(matches(page, 3, steps), True)
        page.set_marks(2, [])
        self.assertIs(matches(page, 3, steps), False)
        page.undo()
        self.assertIs(matches(page, 3, steps), True)

    def test_point_44_after_moves(self):
        page = page_of(("a", []), ("b", [("c", [("d", [])])]))
        near, far = parse_selector("a > c d"), parse_selector("a d")
        self.assertEqual([matches(page, 5, steps) for steps in (near, far)], [False, False])
        page.move(4, 2, 0)
        self.assertEqual([matches(page, 5, steps) for steps in (near, far)], [True, True])
        page.move(3, 2, 0)
        page.move(4, 3, 0)
        self.assertEqual([matches(page, 5, steps) for steps in (near, far)], [False, True])
        page.undo()
        self.assertEqual([matches(page, 5, steps) for steps in (near, far)], [True, True])

    def test_point_44_random_pages(self):
        source = random.Random(4)
        for page in some_pages(40, 40, seed=3):
            for _ in range(25):
                count = source.randint(1, 4)
                parts = []
                for number in range(count):
                    name = source.choice(WORDS + ["*", "page", ""])
                    marks = () if name == "*" else tuple(source.sample(WORDS, source.randint(0 if name else 1, 2)))
                    parts.append(("" if number == 0 else source.choice([" ", ">"]), name, marks))
                for node in page.nodes():
                    found = matches(page, node, tuple(parts))
                    self.assertIs(found, model(page, node, tuple(parts)), (page.snapshot(), parts, node))

    def test_point_44_deep_chains_are_not_tried_one_by_one(self):
        page = chain_page(30)
        for text in ["a a a b", "b a a a", "* * * .m", "page a > a a", "page a a > b"]:
            steps = parse_selector(text)
            for node in page.nodes():
                self.assertIs(matches(page, node, steps), text == "page a > a a" and node >= 4, (text, node))

    def test_point_3_the_page_stays_as_it_is(self):
        before = self.page.snapshot()
        for node in self.page.nodes():
            matches(self.page, node, parse_selector("* > a b"))
        self.assertEqual(self.page.snapshot(), before)


if __name__ == "__main__":
    unittest.main()
