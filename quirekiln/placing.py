"""The rectangles of the shown nodes and how far boxes are scrolled (points 88 and 89)."""

from quirekiln.laying import root_task
from quirekiln.tree import ROOT


class Placing:
    """Where a layout puts the shown nodes: their rectangles, and the amounts they are scrolled by."""

    def __init__(self, layout):
        self.rects = {}
        self.amounts = {}
        # Where each node stands, and its last task.
        standing = {ROOT: (0, 0, root_task(layout.page, layout.styles))}
        # What carries a node comes before it in document order.
        for node in layout.order:
            x, y, task = standing[node]
            found = layout.outcome(task)
            self.rects[node] = (x, y, task[1], _height(layout, node, found))
            self.amounts[node] = _amounts(layout, self.rects[node], task, found)
            right, down = self.amounts[node]
            for left, top, last in found.spots:
                across, along = _moves(layout.styles[last[0]])
                standing[last[0]] = (x + left - right + across, y + top - down + along, last)


def _height(layout, node, found):
    """Returns the height of the rectangle of a node with this outcome of its last task."""
    if node == ROOT:
        return max(layout.page.height, found.height)
    return found.height


def _moves(style):
    """Returns how far a node is shifted to the right and downwards. A text is not."""
    if style.get("place") == "shifted":
        return (style["left"], style["top"])
    return (0, 0)


def _amounts(layout, rect, task, found):
    """Returns how far a node is scrolled to the right and downwards."""
    node = task[0]
    style = layout.styles[node]
    if style.get("clip") != "scroll":
        return (0, 0)
    x, y = layout.page.scroll(node)
    # What the padding takes, less what the box has within its border.
    spare = 2 * style["padding"] + 2 * style["border"]
    most_x = found.content[0] + spare - rect[2]
    most_y = found.content[1] + spare - rect[3]
    return (max(0, min(x, most_x)), max(0, min(y, most_y)))
