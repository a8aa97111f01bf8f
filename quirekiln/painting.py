"""Painted items: tuples (kind, rectangle, color, node, start, end) (points 110 to 113 and 115)."""

from quirekiln.clipping import clips, cut_rect
from quirekiln.inks import ink_rect, set_texts
from quirekiln.plates import is_empty
from quirekiln.sheets import paint_order


def painted_items(page, styles, rectangles):
    """Returns the list of the painted items, from the lowest to the topmost one."""
    # The caller's dict may have any order.
    rects = {node: rectangles[node] for node in page.nodes() if node in rectangles}
    texts = set_texts(page, styles, rects, {})
    return paint_nodes(page, styles, rects, texts, clips(page, styles, rects))


def changed_items(old, new):
    """Returns what is between the common beginning and the common end of two lists, of both."""
    start = 0
    shorter = min(len(old), len(new))
    while start < shorter and old[start] == new[start]:
        start += 1
    end = 0
    while end < shorter - start and old[-1 - end] == new[-1 - end]:
        end += 1
    return [*old[start:len(old) - end], *new[start:len(new) - end]]


def paint_nodes(page, styles, rects, texts, cut_to):
    """Returns the painted items of a page with these texts of `set_texts` and clips of `clips`.

    The rectangles are in document order.
    """
    found = []
    for node in paint_order(page, styles, list(rects)):
        if node in texts:
            items = _text_items(node, styles[node], rects[node], texts[node][1])
        else:
            items = _box_items(node, styles[node], rects[node])
        found.extend(_cut_items(items, cut_to[node]))
    return found


def _box_items(node, style, rect):
    """Returns the items of a box by itself, before they are cut."""
    found = []
    if style["background"] != 0:
        found.append(("ground", rect, style["background"], node, 0, 0))
    if style["border"] > 0:
        for edge in _edges(rect, style["border"]):
            found.append(("edge", edge, style["border_color"], node, 0, 0))
    return found


def _edges(rect, thick):
    """Returns the rectangles of the edges of a box: the top, bottom, left and right one."""
    x, y, w, h = rect
    between = max(0, h - 2 * thick)
    right = x + w - thick
    top = (x, y, w, thick)
    bottom = (x, y + h - thick, w, thick)
    return [top, bottom, (x, y + thick, thick, between), (right, y + thick, thick, between)]


def _text_items(node, style, rect, inks):
    """Returns the items of a text, before they are cut."""
    size = style["size"]
    color = style["color"]
    return [("ink", ink_rect(rect, size, ink), color, node, ink[0], ink[1]) for ink in inks]


def _cut_items(items, clip):
    """Returns the items as they are after they were cut, without the empty ones."""
    found = []
    for kind, rect, color, node, start, end in items:
        left = cut_rect(rect, clip)
        if not is_empty(left):
            found.append((kind, left, color, node, start, end))
    return found
