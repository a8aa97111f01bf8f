"""A slow model of points 10 to 15 that counts single cells, and inputs for it."""

import random
from itertools import product

FAR = 10 ** 12


def cells_of(rects):
    """The set of the cells that the rectangles cover, cell by cell."""
    return {
        (px, py)
        for x, y, w, h in rects
        for px in range(x, x + w)
        for py in range(y, y + h)
    }


def runs_of(cells, row):
    """The runs of a row as (start, stop), from the left."""
    columns = {px for px, py in cells if py == row}
    starts = sorted(px for px in columns if px - 1 not in columns)
    stops = sorted(px + 1 for px in columns if px + 1 not in columns)
    return list(zip(starts, stops))


def bands_of(cells):
    """The bands of a set of cells, row by row."""
    found = []
    for row in sorted({py for px, py in cells}):
        runs = runs_of(cells, row)
        if found and found[-1][1] == row and found[-1][2] == runs:
            found[-1] = (found[-1][0], row + 1, runs)
        else:
            found.append((row, row + 1, runs))
    return found


def region_of(cells):
    """The region of a set of cells."""
    return [
        (start, top, stop - start, bottom - top)
        for top, bottom, runs in bands_of(cells)
        for start, stop in runs
    ]


def small_rects():
    """All rectangles within a few cells around (0, 0), the empty ones included."""
    return [
        (x, y, w, h)
        for x, y in product((-1, 0, 1), repeat=2)
        for w, h in product((0, 1, 2), repeat=2)
    ]


def some_lists(count, longest, seed=1):
    """Lists of rectangles that overlap, touch, are empty and repeat; the same ones each time."""
    source = random.Random(seed)
    lists = []
    for _ in range(count):
        rects = [
            (
                source.randint(-6, 6),
                source.randint(-6, 6),
                source.choice((0, 1, 1, 2, 3, 5)),
                source.choice((0, 1, 1, 2, 3, 5)),
            )
            for _ in range(source.randint(0, longest))
        ]
        rects += source.sample(rects, len(rects) // 4)
        lists.append(rects)
    return lists


def enlarge(rects, factor, dx, dy):
    """The rectangles with each cell drawn as factor times factor cells, moved far away."""
    return [(x * factor + dx, y * factor + dy, w * factor, h * factor) for x, y, w, h in rects]
