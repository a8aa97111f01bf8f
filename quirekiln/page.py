"""The page: a window and a tree of boxes and texts that is edited in steps (points 20 to 27).

Each step marks nodes (point 103): a node and all nodes below it, or none. With the moment at
which each node was marked last, any number of engines can ask what is new to them.
"""

from quirekiln.checks import check_index, check_number, check_property, check_string, check_value
from quirekiln.checks import check_word, read_marks, read_rules, sorted_pairs
from quirekiln.errors import BadPlace, NoNode, TooDeep, TooMany, WrongKind
from quirekiln.history import History
from quirekiln.kinds import is_number
from quirekiln.tree import CHILDREN, CONTENT, KIND, MARKS, NOBODY, OWN, PARENT, ROOT, SCROLL
from quirekiln.tree import branch, depth_of, height_of, new_row, replaced, with_child, without_child

MOST_WINDOW = 1000
MOST_SCROLL = 10000
MOST_DEPTH = 30
MOST_NODES = 300

# The keys of the cells that stand beside the rows of the nodes. No id is a string.
WINDOW = "window"
RULES = "rules"


class Page:
    """A page. Its value stands in the cells of a history, the rows of the nodes by their ids."""

    def __init__(self, width, height):
        check_number("width", width, MOST_WINDOW)
        check_number("height", height, MOST_WINDOW)
        root = new_row(NOBODY, "box", "page", ())
        self.width = width
        self.height = height
        self._last_id = ROOT
        self._moment = 0
        self._marked = {}
        self._history = History({WINDOW: (width, height), RULES: (), ROOT: root})

    def kind(self, node):
        """Returns "box" or "text"."""
        return self._row(node)[KIND]

    def parent(self, node):
        """Returns the id of the parent, 0 for the root."""
        return self._row(node)[PARENT]

    def children(self, node):
        """Returns the list of the ids of the children."""
        return list(self._row(node)[CHILDREN])

    def name(self, node):
        """Returns the name of a box, or an empty string for a text."""
        row = self._row(node)
        return row[CONTENT] if row[KIND] == "box" else ""

    def text(self, node):
        """Returns the string of a text, or an empty string for a box."""
        row = self._row(node)
        return row[CONTENT] if row[KIND] == "text" else ""

    def marks(self, node):
        """Returns the marks as a tuple in ascending order."""
        return self._row(node)[MARKS]

    def own(self, node):
        """Returns the own properties as a dict."""
        return dict(self._row(node)[OWN])

    def scroll(self, node):
        """Returns the scroll position as a pair."""
        return self._row(node)[SCROLL]

    def depth(self, node):
        """Returns the depth: 1 for the root."""
        self._row(node)
        return depth_of(self._history.cells, node)

    def nodes(self):
        """Returns the list of all ids in document order."""
        return branch(self._history.cells, ROOT)

    def rules(self):
        """Returns the list of the rules as pairs of a selector and a dict."""
        return [(selector, dict(pairs)) for selector, pairs in self._history.cells[RULES]]

    def insert_box(self, parent, index, name, *, marks=()):
        """Inserts a new box into a box at an index and returns its id."""
        self._box(parent)
        check_word(name)
        return self._insert(index, new_row(parent, "box", name, read_marks(marks)))

    def insert_text(self, parent, index, string):
        """Inserts a new text into a box at an index and returns its id."""
        self._box(parent)
        check_string(string)
        return self._insert(index, new_row(parent, "text", string, ()))

    def remove(self, node):
        """Removes a node and everything below it."""
        row = self._row(node)
        _refuse_root(node)
        cells = self._history.cells
        changes = {gone: None for gone in branch(cells, node)}
        changes[row[PARENT]] = without_child(cells[row[PARENT]], node)
        # Only what comes back when this is undone is marked: now the node is gone.
        self._write(changes, node)

    def move(self, node, parent, index):
        """Moves a node with everything below it into a box; the index is counted without it."""
        row = self._row(node)
        self._row(parent)
        _refuse_root(node)
        self._box(parent)
        cells = self._history.cells
        if parent in branch(cells, node):
            raise BadPlace(parent)
        changes = {row[PARENT]: without_child(cells[row[PARENT]], node)}
        target = changes.get(parent, cells[parent])
        check_index(index, len(target[CHILDREN]))
        _check_depth(depth_of(cells, parent) + height_of(cells, node))
        changes[parent] = with_child(target, index, node)
        changes[node] = replaced(row, PARENT, parent)
        self._write(changes, node)

    def set_text(self, node, string):
        """Gives a text another string."""
        row = self._row(node)
        if row[KIND] != "text":
            raise WrongKind(node)
        check_string(string)
        self._write({node: replaced(row, CONTENT, string)}, NOBODY)

    def set_marks(self, node, marks):
        """Gives a box other marks."""
        row = self._box(node)
        self._write({node: replaced(row, MARKS, read_marks(marks))}, node)

    def set_own(self, node, name, value):
        """Gives an own property of a box a value."""
        row = self._box(node)
        check_value(name, value)
        own = dict(row[OWN])
        own[name] = value
        self._write({node: replaced(row, OWN, sorted_pairs(own))}, node)

    def clear_own(self, node, name):
        """Takes an own property from a box, if it has it."""
        row = self._box(node)
        check_property(name)
        own = dict(row[OWN])
        own.pop(name, None)
        self._write({node: replaced(row, OWN, sorted_pairs(own))}, node)

    def set_rules(self, rules):
        """Gives the page other rules."""
        self._write({RULES: read_rules(rules)}, ROOT)

    def scroll_to(self, node, x, y):
        """Gives a box another scroll position."""
        row = self._box(node)
        check_number("x", x, MOST_SCROLL)
        check_number("y", y, MOST_SCROLL)
        self._write({node: replaced(row, SCROLL, (x, y))}, NOBODY)

    def resize(self, width, height):
        """Gives the window another width and height."""
        check_number("width", width, MOST_WINDOW)
        check_number("height", height, MOST_WINDOW)
        self._write({WINDOW: (width, height)}, NOBODY)

    def undo(self):
        """Reverts the last step that is not undone; returns False if there is none."""
        return self._follow(self._history.undo())

    def redo(self):
        """Repeats the step that was undone last; returns False if there is none."""
        return self._follow(self._history.redo())

    def moment(self):
        """Returns the number of the steps that were ever done, undone and redone."""
        return self._moment

    def marked_since(self, moment):
        """Returns the list of the nodes that were marked after a moment, in document order."""
        return [node for node in self.nodes() if self._marked.get(node, 0) > moment]

    def snapshot(self):
        """Returns the value of the page: its width, height, rules, and a row for each node."""
        cells = self._history.cells
        rows = [(node,) + cells[node][:CHILDREN] for node in self.nodes()]
        return (self.width, self.height, cells[RULES], tuple(rows))

    def duplicate(self):
        """Returns a new page with the same value and counter and without steps."""
        page = Page(self.width, self.height)
        page._last_id = self._last_id
        page._history = History(dict(self._history.cells))
        return page

    def _row(self, node):
        """Returns the row of a node; raises NoNode(node)."""
        if not is_number(node) or node not in self._history.cells:
            raise NoNode(node)
        return self._history.cells[node]

    def _box(self, node):
        """Returns the row of a box; raises NoNode(node) or WrongKind(node)."""
        row = self._row(node)
        if row[KIND] != "box":
            raise WrongKind(node)
        return row

    def _insert(self, index, row):
        """Inserts a node with this row into its parent and returns its id."""
        parent = row[PARENT]
        holder = self._row(parent)
        check_index(index, len(holder[CHILDREN]))
        _check_depth(self.depth(parent) + 1)
        count = len(self.nodes()) + 1
        if count > MOST_NODES:
            raise TooMany(count)
        self._last_id += 1
        node = self._last_id
        self._write({parent: with_child(holder, index, node), node: row}, node)
        return node

    def _write(self, changes, marked):
        """Does one step, which marks this node and all nodes below it."""
        self._history.write(changes, marked)
        self._follow(marked)

    def _follow(self, marked):
        """Follows a step that was done, undone or redone; returns False if it is None, otherwise True."""
        if marked is None:
            return False
        cells = self._history.cells
        self.width, self.height = cells[WINDOW]
        self._moment += 1
        if marked in cells:
            for node in branch(cells, marked):
                self._marked[node] = self._moment
        return True


def _refuse_root(node):
    """Raises WrongKind(node) if it is the root, which is never removed or moved."""
    if node == ROOT:
        raise WrongKind(node)


def _check_depth(depth):
    """Raises TooDeep(depth) if a page may not be so deep."""
    if depth > MOST_DEPTH:
        raise TooDeep(depth)
