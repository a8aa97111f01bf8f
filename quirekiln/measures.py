"""The measures of nodes: the least and the greatest width they have a use for (points 70 to 73).

The style of a text has none of the properties that are asked for with `get` here. What they get
instead is what points 70 and 75 say of texts: no frame and no margins.
"""

from quirekiln.letters import offsets
from quirekiln.lines import paragraphs, words


def frame(style):
    """Returns the border and the padding of a box together."""
    return style.get("border", 0) + style.get("padding", 0)


def side_margins(style):
    """Returns the left and the right margin of a node together."""
    return style.get("margin_left", 0) + style.get("margin_right", 0)


def bounded(style, width):
    """Returns the width, bounded for a box."""
    return max(min(width, style["most_width"]), style["least_width"], 2 * frame(style))


def given_width(style, room):
    """Returns the bounded width of a box whose width is a number, or a part of this room."""
    given = style["width"]
    if isinstance(given, tuple):
        return bounded(style, room * given[1] // 100)
    return bounded(style, given)


def flow_children(page, styles, node):
    """Returns the list of the flow children of a box."""
    return [child for child in page.children(node) if _is_in_flow(page, styles, child)]


def narrow(page, styles, node):
    """Returns the narrow measure of a node."""
    return Measures(page, styles, {}).pair(node)[0]


def wide(page, styles, node):
    """Returns the wide measure of a node."""
    return Measures(page, styles, {}).pair(node)[1]


def column_measures(page, styles, node):
    """Returns the list of the measures (narrow, wide) of the columns of a grid."""
    return Measures(page, styles, {}).columns(node)


class Measures:
    """The measures of the nodes of a page. Each node is measured once, and both ways together."""

    def __init__(self, page, styles, known):
        self._page = page
        self._styles = styles
        # The measures of some nodes may be known from before.
        self.known = known

    def pair(self, node):
        """Returns the measures (narrow, wide) of a node."""
        if node not in self.known:
            self.known[node] = self._measured(node)
        return self.known[node]

    def columns(self, node):
        """Returns the list of the measures (narrow, wide) of the columns of a grid."""
        outer = self._outer_pairs(node)
        many = self._styles[node]["columns"]
        return [_greatest(outer[first::many]) for first in range(many)]

    def _measured(self, node):
        style = self._styles[node]
        if self._page.kind(node) == "text":
            return _text_pair(self._page.text(node), style["size"])
        if isinstance(style["width"], int):
            width = bounded(style, style["width"])
            return (width, width)
        inside = self._inside(node)
        around = 2 * frame(style)
        return (bounded(style, inside[0] + around), bounded(style, inside[1] + around))

    def _inside(self, node):
        """Returns the measures of what is inside a box."""
        style = self._styles[node]
        if style["display"] == "row":
            return _in_a_row(self._outer_pairs(node), style["gap"])
        if style["display"] == "grid":
            return _in_a_row(self.columns(node), style["gap"])
        return _greatest(self._outer_pairs(node))

    def _outer_pairs(self, node):
        """Returns the list of the outer measures of the flow children of a box."""
        found = []
        for child in flow_children(self._page, self._styles, node):
            margins = side_margins(self._styles[child])
            least, most = self.pair(child)
            found.append((least + margins, most + margins))
        return found


def _is_in_flow(page, styles, node):
    if page.kind(node) == "text":
        return True
    return styles[node]["display"] != "none" and styles[node]["place"] != "free"


def _text_pair(string, size):
    """Returns the measures of a text."""
    sums = offsets(string, size)
    least = 0
    most = 0
    for start, end in paragraphs(string):
        parts = words(string, start, end)
        if parts:
            most = max(most, sums[parts[-1][1]] - sums[parts[0][0]])
        for low, high in parts:
            least = max(least, sums[high] - sums[low])
    return (least, most)


def _greatest(pairs):
    """Returns the greatest first and the greatest second number, (0, 0) if there is no pair."""
    return (max([least for least, most in pairs], default=0), max([most for least, most in pairs], default=0))


def _in_a_row(pairs, gap):
    """Returns the sums of the first and of the second numbers, both with the gaps between."""
    gaps = gap * max(0, len(pairs) - 1)
    return (sum([least for least, most in pairs]) + gaps, sum([most for least, most in pairs]) + gaps)
