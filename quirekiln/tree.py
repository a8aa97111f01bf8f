"""The tree of a page: a dict from the ids of the nodes to their rows (points 21 to 23).

A row is a tuple of the parent's id, the kind, the content, the marks, the own properties as
pairs, the scroll position, and the ids of the children. Rows are replaced and never changed.
"""

ROOT = 1

# The id that the root has as its parent.
NOBODY = 0

# Where the parts of a row stand.
PARENT = 0
KIND = 1
CONTENT = 2
MARKS = 3
OWN = 4
SCROLL = 5
CHILDREN = 6


def new_row(parent, kind, content, marks):
    """Returns the row of a new node."""
    return (parent, kind, content, marks, (), (0, 0), ())


def replaced(row, at, value):
    """Returns the row with another value at one place."""
    return row[:at] + (value,) + row[at + 1:]


def with_child(row, index, child):
    """Returns the row with one more child, at this index."""
    children = row[CHILDREN]
    return replaced(row, CHILDREN, children[:index] + (child,) + children[index:])


def without_child(row, child):
    """Returns the row without this child."""
    return replaced(row, CHILDREN, tuple([other for other in row[CHILDREN] if other != child]))


def branch(rows, node):
    """Returns the list of a node and all nodes below it, in document order."""
    found = []
    waiting = [node]
    while waiting:
        last = waiting.pop()
        found.append(last)
        waiting.extend(rows[last][CHILDREN][::-1])
    return found


def depth_of(rows, node):
    """Returns the depth of a node: 1 for the root."""
    depth = 1
    while rows[node][PARENT] != NOBODY:
        node = rows[node][PARENT]
        depth += 1
    return depth


def height_of(rows, node):
    """Returns the number of levels that a node and the nodes below it take up."""
    return 1 + max([height_of(rows, child) for child in rows[node][CHILDREN]], default=0)
