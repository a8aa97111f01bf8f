"""Regions: sets of cells as lists of rectangles (points 12 to 16).

The rows are cut at the upper and lower edges of all rectangles. All rows of such a slab have
the same cells, so the work depends on the number of the rectangles and not on their size.
"""

from quirekiln.plates import has_cell, intersect, is_empty


def region(rects):
    """Returns the region of the cells that the rectangles cover."""
    return minus(rects, [])


def bands(rects):
    """Yields the bands of the set as (top, bottom, runs), from top to bottom."""
    yield from _band_list(rects, [])


def join(first, second):
    """Returns the region of the cells that are in one of two sets or in both."""
    return region([*first, *second])


def minus(first, second):
    """Returns the region of the cells that are in the first set and not in the second."""
    plates = []
    for top, bottom, runs in _band_list(first, second):
        for start, stop in runs:
            plates.append((start, top, stop - start, bottom - top))
    return plates


def cut(rects, rect):
    """Returns the region of the cells of the set that one rectangle covers."""
    return region([intersect(plate, rect) for plate in rects])


def area(rects):
    """Returns the number of cells of the set."""
    return sum([w * h for x, y, w, h in region(rects)])


def has(rects, px, py):
    """Returns True if one of the rectangles covers the cell (px, py), otherwise False."""
    return any([has_cell(rect, px, py) for rect in rects])


def _band_list(filled, holes):
    """Returns the bands of the cells of the filled rectangles that are in no hole."""
    found = []
    for top, bottom, runs in _slabs(filled, holes):
        if found and found[-1][1] == top and found[-1][2] == runs:
            found[-1] = (found[-1][0], bottom, runs)
        elif runs:
            found.append((top, bottom, runs))
    return found


def _slabs(filled, holes):
    """Returns (top, bottom, runs) for the rows between each edge and the next one."""
    # One hole outweighs all filled rectangles that may lie over it.
    waiting = sorted(_spans(filled, 1) + _spans(holes, -len(filled)))
    edges = sorted({edge for span in waiting for edge in span[:2]})
    slabs = []
    active = []
    entered = 0
    for top, bottom in zip(edges, edges[1:]):
        active = [span for span in active if span[1] > top]
        while entered < len(waiting) and waiting[entered][0] == top:
            active.append(waiting[entered])
            entered += 1
        slabs.append((top, bottom, _runs(active)))
    return slabs


def _spans(rects, weight):
    """Returns (top, bottom, start, stop, weight) for each rectangle that is not empty."""
    filled = [rect for rect in rects if not is_empty(rect)]
    return [(y, y + h, x, x + w, weight) for x, y, w, h in filled]


def _runs(spans):
    """Returns the runs of a row that all of these spans cross: where their weights exceed 0."""
    changes = {}
    for span in spans:
        start, stop, weight = span[2:]
        changes[start] = changes.get(start, 0) + weight
        changes[stop] = changes.get(stop, 0) - weight
    runs = []
    total = 0
    begin = None
    for edge in sorted(changes):
        total += changes[edge]
        if total > 0 and begin is None:
            begin = edge
        elif total <= 0 and begin is not None:
            runs.append((begin, edge))
            begin = None
    return runs
