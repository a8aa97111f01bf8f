"""Pages for the tests: built from a sketch, checked against their snapshot, edited at random."""

import random

from quirekiln.errors import PageError
from quirekiln.page import Page

WORDS = ["a", "b", "c", "note", "head", "abcdefghijkl"]
VALUES = {
    "display": ["block", "row", "grid", "none"],
    "place": ["flow", "shifted", "free"],
    "width": ["auto", 0, 70, ("part", 50)],
    "left": [-5, 0, 900],
    "size": [1, 3, 20],
    "color": [1, 255],
    "align": ["left", "full"],
    "lead": [0, 7],
}
SELECTORS = ["*", "a", ".note", "a b", "a > b", "* > .note", "page a.note > *", "b.note.a", "page"]


def grow(page, parent, sketch):
    """Inserts what the sketch says: a string is a text, a pair a box with what is in it."""
    for part in sketch:
        index = len(page.children(parent))
        if isinstance(part, str):
            page.insert_text(parent, index, part)
        else:
            name, *marks = part[0].split(".")
            grow(page, page.insert_box(parent, index, name, marks=marks), part[1])


def page_of(*sketch):
    """A page whose nodes have the ids 2, 3, .. in document order."""
    page = Page(100, 50)
    grow(page, 1, sketch)
    return page


def chain_page(depth):
    """A page of boxes, each in the one before, down to this depth; the ids are the depths."""
    page = Page(10, 10)
    for parent in range(1, depth):
        page.insert_box(parent, 0, "a")
    return page


def wide_page(count):
    """A page with this many nodes, all but one of them children of the root."""
    page = Page(10, 10)
    for _ in range(count - 1):
        page.insert_text(1, 0, "")
    return page


def value_and_steps(page):
    """The snapshot, then those that each possible redo leads to, and those of each undo."""
    start = page.snapshot()
    later = []
    while page.redo():
        later.append(page.snapshot())
    for _ in later:
        page.undo()
    assert page.snapshot() == start
    earlier = []
    while page.undo():
        earlier.append(page.snapshot())
    for _ in earlier:
        page.redo()
    assert page.snapshot() == start
    return start, later, earlier


def assert_refused(test, page, error, value, call):
    """The call raises just this error with this value, and the page stays as it is."""
    before = value_and_steps(page)
    with test.assertRaises(PageError) as held:
        call()
    found = held.exception
    told = (found.__class__, found.value, found.value.__class__)
    test.assertEqual(told, (error, value, value.__class__))
    test.assertEqual(value_and_steps(page), before)


def assert_consistent(test, page):
    """The reading methods tell the same as the snapshot, and the tree is one."""
    width, height, rules, rows = page.snapshot()
    test.assertEqual((page.width, page.height), (width, height))
    test.assertEqual(page.rules(), [(selector, dict(pairs)) for selector, pairs in rules])
    for selector, pairs in rules:
        test.assertEqual(list(pairs), sorted(pairs))
    test.assertEqual([row[0] for row in rows], page.nodes())
    test.assertEqual(rows[0][:4], (1, 0, "box", "page"))
    for node, parent, kind, content, marks, own, scroll in rows:
        test.assertEqual((page.kind(node), page.parent(node)), (kind, parent))
        test.assertEqual(page.name(node), content if kind == "box" else "")
        test.assertEqual(page.text(node), content if kind == "text" else "")
        test.assertEqual(page.marks(node), marks)
        test.assertEqual(list(marks), sorted(set(marks)))
        test.assertEqual(page.own(node), dict(own))
        test.assertEqual(list(own), sorted(own))
        test.assertEqual(page.scroll(node), scroll)
        if node != 1:
            test.assertEqual(page.children(parent).count(node), 1)
            test.assertEqual(page.depth(node), page.depth(parent) + 1)
        if kind == "text":
            test.assertEqual((page.children(node), marks, own, scroll), ([], (), (), (0, 0)))
    test.assertEqual(order_of(page, 1), page.nodes())
    test.assertEqual(len(set(page.nodes())), len(page.nodes()))
    test.assertEqual(page.depth(1), 1)


def order_of(page, node):
    """The node and all below it in document order, from children() alone."""
    found = [node]
    for child in page.children(node):
        found += order_of(page, child)
    return found


def some_rules(source, longest=5):
    """A few rules."""
    rules = []
    for _ in range(source.randint(0, longest)):
        names = source.sample(sorted(VALUES), source.randint(0, 3))
        given = {name: source.choice(VALUES[name]) for name in names}
        rules.append((source.choice(SELECTORS), given))
    return rules


def edit_at_random(page, source):
    """Calls one edit; some of them are refused. Returns True if it was accepted."""
    known = page.nodes()
    node, other = source.choice(known), source.choice(known + [999])
    name = source.choice(sorted(VALUES))
    marks = source.sample(WORDS, source.randint(0, 3))
    index = source.randint(-1, 3)
    calls = [
        lambda: page.insert_box(node, index, source.choice(WORDS), marks=marks),
        lambda: page.insert_box(node, 0, source.choice(WORDS), marks=marks),
        lambda: page.insert_text(node, 0, source.choice(["", "x\ny", "some words"])),
        lambda: page.remove(other),
        lambda: page.move(node, other, index),
        lambda: page.move(node, other, 0),
        lambda: page.set_text(node, source.choice(["new", "\n"])),
        lambda: page.set_marks(node, marks),
        lambda: page.set_own(node, name, source.choice(VALUES[name] + [None])),
        lambda: page.clear_own(node, name),
        lambda: page.set_rules(some_rules(source)),
        lambda: page.scroll_to(node, source.randint(0, 9), source.randint(-1, 9)),
        lambda: page.resize(source.randint(0, 9), source.randint(-1, 9)),
    ]
    try:
        source.choice(calls)()
    except PageError:
        return False
    return True


def some_pages(count, edits, seed=1):
    """Pages that were edited at random; the same ones each time."""
    source = random.Random(seed)
    for _ in range(count):
        page = Page(source.randint(0, 1000), source.randint(0, 1000))
        for _ in range(edits):
            edit_at_random(page, source)
        yield page
