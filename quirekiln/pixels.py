"""The colors of cells (point 114)."""

from quirekiln.plates import has_cell, intersect, is_empty


def color_at(painted, x, y):
    """Returns the color of the last item that covers the cell, or 0."""
    for item in reversed(painted):
        if has_cell(item[1], x, y):
            return item[2]
    return 0


def paint(painted, rectangle):
    """Returns a list of the colors of each row of cells of the rectangle."""
    if is_empty(rectangle):
        return []
    spans = _spans(painted, rectangle)
    edges = sorted({edge for span in spans for edge in span[:2]})
    layers = _layers(spans, edges)
    rows = []
    for number, (top, bottom) in enumerate(zip(edges, edges[1:])):
        row = _row(layers[number], rectangle)
        rows.extend([list(row) for _ in range(top, bottom)])
    return rows


def _spans(painted, rectangle):
    """Returns (top, bottom, start, stop, color) for each item, cut to the rectangle.

    The first one is the color of what no item covers, so that each row has a span.
    """
    x, y, w, h = rectangle
    spans = [(y, y + h, x, x + w, 0)]
    for item in painted:
        left, top, width, height = intersect(item[1], rectangle)
        if width > 0:
            spans.append((top, top + height, left, left + width, item[2]))
    return spans


def _layers(spans, edges):
    """Returns, for the rows from each edge to the next one, the list of the spans that cross them."""
    numbers = {edge: number for number, edge in enumerate(edges)}
    layers = [[] for edge in edges]
    for span in spans:
        for number in range(numbers[span[0]], numbers[span[1]]):
            layers[number].append(span)
    return layers


def _row(spans, rectangle):
    """Returns the colors of one row of cells that these spans cross."""
    left = rectangle[0]
    row = [0] * rectangle[2]
    for span in spans:
        start, stop, color = span[2:]
        row[start - left:stop - left] = [color] * (stop - start)
    return row
