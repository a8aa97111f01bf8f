"""What is at a cell, carets and selections (points 120 to 125)."""

from quirekiln.clipping import cut_rect
from quirekiln.errors import BadPlace, NoNode
from quirekiln.inks import ink_rect
from quirekiln.kinds import is_number, is_within
from quirekiln.plates import has_cell, is_empty


def hit_at(painted, x, y):
    """Returns the node of the last item that covers the cell, or 0."""
    for item in reversed(painted):
        if has_cell(item[1], x, y):
            return item[3]
    return 0


def hits_at(painted, x, y):
    """Returns the list of the nodes of the items that cover the cell, from the topmost one on."""
    found = {}
    for item in reversed(painted):
        if has_cell(item[1], x, y):
            found[item[3]] = True
    return list(found)


class ShownTexts:
    """The shown texts of a page as they were at one moment, in document order.

    The texts are those of `set_texts`, the clips those of `clips`; nothing of the page is asked.
    """

    def __init__(self, texts, rects, cut_to):
        self.texts = texts
        self._rects = rects
        self._cut_to = cut_to

    def caret(self, node, index):
        """Returns the rectangle of the caret at an index of a text."""
        self._check_end(node, index)
        left, top = self._rects[node][:2]
        setting = self.texts[node][0]
        x, y = setting.caret(index)
        return (left + x, top + y, 1, setting.size)

    def index_at(self, node, x, y):
        """Returns the index of a text that is nearest to a cell."""
        self._check_node(node)
        left, top = self._rects[node][:2]
        return self.texts[node][0].index_near(x - left, y - top)

    def selection(self, first, last):
        """Returns the list of the rectangles of the ink between two ends."""
        found = []
        for node, low, high in self._parts(first, last):
            setting = self.texts[node][0]
            for ink in setting.ink_between(low, high):
                rect = cut_rect(ink_rect(self._rects[node], setting.size, ink), self._cut_to[node])
                if not is_empty(rect):
                    found.append(rect)
        return found

    def selected_text(self, first, last):
        """Returns the strings of the selected parts between two ends, joined by newlines."""
        return "\n".join([self.texts[node][0].string[low:high] for node, low, high in self._parts(first, last)])

    def _parts(self, first, last):
        """Returns the selected part (node, low, high) of each text between two ends."""
        self._check_end(first[0], first[1])
        self._check_end(last[0], last[1])
        order = list(self.texts)
        (begin, low), (end, high) = sorted([(order.index(node), index) for node, index in (first, last)])
        found = []
        for number in range(begin, end + 1):
            node = order[number]
            start = low if number == begin else 0
            stop = high if number == end else len(self.texts[node][0].string)
            found.append((node, start, stop))
        return found

    def _check_node(self, node):
        """Raises NoNode(node) unless it is a shown text."""
        if not is_number(node) or node not in self.texts:
            raise NoNode(node)

    def _check_end(self, node, index):
        """Raises NoNode(node) unless it is a shown text, BadPlace(index) unless it has the index."""
        self._check_node(node)
        if not is_within(index, 0, len(self.texts[node][0].string)):
            raise BadPlace(index)
