"""Grids: boxes whose flow children stand in columns and rows (points 84 and 85)."""

from quirekiln.measures import flow_children, frame, side_margins


def column_widths(narrows, wides, room):
    """Returns the widths of the columns with these measures in a room."""
    least = sum(narrows)
    most = sum(wides)
    if most <= room:
        share = (room - most) // len(wides)
        widths = [measure + share for measure in wides]
        return _with_left_over(widths, room, [True] * len(wides))
    if least >= room:
        return list(narrows)
    spans = [high - low for low, high in zip(narrows, wides)]
    widths = [low + (room - least) * span // (most - least) for low, span in zip(narrows, spans)]
    return _with_left_over(widths, room, [span > 0 for span in spans])


def arrange_grid(layout, node, inner):
    """Lays out the flow children of a grid with this inner width.

    Returns the spot (x, y, task) of each of them, and the width and height of the content.
    """
    style = layout.styles[node]
    gap = style["gap"]
    columns = _columns(layout, node, inner)
    many = len(columns)
    children = flow_children(layout.page, layout.styles, node)
    top = frame(style)
    spots = []
    for first in range(0, len(children), many):
        line = children[first:first + many]
        found, height = _arrange_line(layout, line, columns, top)
        spots.extend(found)
        top += height + gap
    if not spots:
        return ([], (0, 0))
    width = columns[-1][0] + columns[-1][1] - columns[0][0]
    return (spots, (width, top - gap - frame(style)))


def _with_left_over(widths, room, is_dealt_to):
    """Returns the widths after what the room has left over went to the first such columns."""
    left_over = room - sum(widths)
    found = []
    for width, gets_one in zip(widths, is_dealt_to):
        extra = 1 if gets_one and left_over > 0 else 0
        found.append(width + extra)
        left_over -= extra
    return found


def _columns(layout, node, inner):
    """Returns the left edge and the width of each column."""
    style = layout.styles[node]
    gap = style["gap"]
    measures = layout.measures.columns(node)
    room = max(0, inner - gap * (len(measures) - 1))
    edge = frame(style)
    found = []
    for width in column_widths([least for least, most in measures], [most for least, most in measures], room):
        found.append((edge, width))
        edge += width + gap
    return found


def _arrange_line(layout, children, columns, top):
    """Lays out one row of a grid; returns the spots of its children and its height."""
    spots = []
    tallest = 0
    for child, (edge, width) in zip(children, columns):
        style = layout.styles[child]
        task = (child, max(width - side_margins(style), 2 * frame(style)), "auto")
        above = style.get("margin_top", 0)
        spots.append((edge + style.get("margin_left", 0), top + above, task))
        tallest = max(tallest, above + layout.outcome(task).height + style.get("margin_bottom", 0))
    return (spots, tallest)
