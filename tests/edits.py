"""Random edits of a page, with undo and redo, that note which nodes each of them marks (point 103)."""

from quirekiln.errors import PageError
from layouts import LAYOUT_VALUES, PAINT_VALUES, STRINGS
from pages import order_of

NAMES = ["a", "b", "c"]
MARKS = ["m", "n", "o"]
SELECTORS = ["*", "a", "b", ".m", "a .n", "a > b", "page > *", "b.m", "c"]
VALUES = {**LAYOUT_VALUES, **PAINT_VALUES}


class Editor:
    """Edits a page. `log` has the set of the marked nodes for each step that was done."""

    def __init__(self, page, source):
        self.page, self.source = page, source
        self.done, self.undone, self.log = [], [], []

    def step(self):
        """One edit, undo or redo; refused edits are none."""
        chance = self.source.random()
        if chance < 0.15:
            self.back()
        elif chance < 0.25:
            self.again()
        else:
            self.edit()

    def steps(self, count):
        for _ in range(count):
            self.step()

    def back(self):
        before = set(self.page.nodes())
        assert self.page.undo() is bool(self.done)
        if self.done:
            kind, node = self.done.pop()
            self.undone.append((kind, node))
            came_back = set(self.page.nodes()) - before
            self.log.append(came_back if kind == "remove" else self.marked(kind, node))

    def again(self):
        assert self.page.redo() is bool(self.undone)
        if self.undone:
            kind, node = self.undone.pop()
            self.done.append((kind, node))
            self.log.append(self.marked(kind, node))

    def edit(self):
        known = self.page.nodes()
        node = self.source.choice(known)
        kind = self.source.choice(sorted(self.calls(node)))
        try:
            told = self.calls(node)[kind]()
        except PageError:
            return
        kind, node = kind.strip("23"), told or node
        self.done.append((kind, node))
        self.undone.clear()
        self.log.append(self.marked(kind, node))

    def marked(self, kind, node):
        """The nodes that this edit marks, in the page as it is."""
        if kind == "rules":
            return set(self.page.nodes())
        if node not in self.page.nodes() or kind in ("remove", "text", "scroll", "resize"):
            return set()
        return {node} if kind == "insert" else set(order_of(self.page, node))

    def calls(self, node):
        page, pick = self.page, self.source.choice
        name = pick(sorted(VALUES))
        index = self.source.randint(0, 2)
        return {
            "insert": lambda: page.insert_box(node, index, pick(NAMES), marks=self.source.sample(MARKS, index)),
            "insert2": lambda: page.insert_text(node, index, pick(STRINGS)),
            "insert3": lambda: page.insert_box(node, 0, pick(NAMES)),
            "remove": lambda: page.remove(node),
            "move": lambda: page.move(node, pick(page.nodes()), index),
            "move2": lambda: page.move(node, 1, index),
            "text": lambda: page.set_text(node, pick(STRINGS)),
            "marks": lambda: page.set_marks(node, self.source.sample(MARKS, index)),
            "own": lambda: page.set_own(node, name, pick(VALUES[name])),
            "own2": lambda: page.set_own(node, name, pick(VALUES[name])),
            "own3": lambda: page.set_own(node, name, pick(VALUES[name])),
            "clear": lambda: page.clear_own(node, pick(sorted(page.own(node)) or [name])),
            "rules": lambda: page.set_rules(self.some_rules()),
            "scroll": lambda: page.scroll_to(node, pick([0, 3, 90]), pick([0, 2, 90])),
            "resize": lambda: page.resize(pick([0, 20, 30]), pick([0, 15, 25])),
        }

    def some_rules(self):
        rules = []
        for _ in range(self.source.randint(0, 3)):
            names = self.source.sample(sorted(VALUES), 3)
            rules.append((self.source.choice(SELECTORS), {name: self.source.choice(VALUES[name]) for name in names}))
        return rules
