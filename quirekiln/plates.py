"""Rectangles: tuples (x, y, w, h) that cover cells (points 10 and 11)."""

EMPTY = (0, 0, 0, 0)


def is_empty(rect):
    """Returns True if the rectangle covers no cell, otherwise False."""
    return rect[2] <= 0 or rect[3] <= 0


def has_cell(rect, px, py):
    """Returns True if the rectangle covers the cell (px, py), otherwise False."""
    x, y, w, h = rect
    return x <= px < x + w and y <= py < y + h


def intersect(first, second):
    """Returns the rectangle of the cells that both rectangles cover."""
    left = max(first[0], second[0])
    top = max(first[1], second[1])
    right = min(first[0] + first[2], second[0] + second[2])
    bottom = min(first[1] + first[3], second[1] + second[3])
    common = (left, top, right - left, bottom - top)
    if is_empty(common):
        return EMPTY
    return common


def bounding(rects):
    """Returns the smallest rectangle that covers all cells of the rectangles."""
    filled = [rect for rect in rects if not is_empty(rect)]
    if not filled:
        return EMPTY
    left = min([x for x, y, w, h in filled])
    top = min([y for x, y, w, h in filled])
    right = max([x + w for x, y, w, h in filled])
    bottom = max([y + h for x, y, w, h in filled])
    return (left, top, right - left, bottom - top)


def shift(rect, dx, dy):
    """Returns the rectangle moved by dx to the right and by dy downwards."""
    x, y, w, h = rect
    return (x + dx, y + dy, w, h)
