"""What the nodes show is cut to (point 112)."""

from quirekiln.plates import intersect
from quirekiln.sheets import carriers


def clips(page, styles, rects):
    """Returns a dict from each shown node to the rectangle that its items are cut to.

    It is None where nothing cuts them.
    """
    carried_by = carriers(page, styles, list(rects))
    found = {}
    # What carries a node comes before it in document order.
    for node in rects:
        carrier = carried_by[node]
        clip = found.get(carrier)
        if carrier in rects and styles[carrier]["clip"] != "open":
            clip = cut_rect(_padding_box(rects[carrier], styles[carrier]["border"]), clip)
        found[node] = clip
    return found


def cut_rect(rect, clip):
    """Returns the part of a rectangle that a clip, which may be None, leaves of it."""
    if clip is None:
        return rect
    return intersect(rect, clip)


def _padding_box(rect, border):
    """Returns the rectangle of a box without its border."""
    x, y, w, h = rect
    return (x + border, y + border, max(0, w - 2 * border), max(0, h - 2 * border))
