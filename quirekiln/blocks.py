"""Blocks: boxes whose flow children stand below one another (point 79)."""

from quirekiln.measures import bounded, flow_children, frame, given_width, side_margins


def arrange_block(layout, node, inner):
    """Lays out the flow children of a block with this inner width.

    Returns the spot (x, y, task) of each of them, and the width and height of the content.
    """
    start = frame(layout.styles[node])
    bottom = start
    space = 0
    greatest = 0
    spots = []
    for child in flow_children(layout.page, layout.styles, node):
        style = layout.styles[child]
        task = (child, child_width(style, inner), "auto")
        top = bottom + max(space, style.get("margin_top", 0))
        spots.append((start + style.get("margin_left", 0), top, task))
        bottom = top + layout.outcome(task).height
        space = style.get("margin_bottom", 0)
        greatest = max(greatest, task[1] + side_margins(style))
    return (spots, (greatest, bottom + space - start))


def child_width(style, inner):
    """Returns the width of a flow child with this style in a block with this inner width."""
    if "width" not in style:
        # Only the style of a text has no width.
        return inner
    if style["width"] == "auto":
        return bounded(style, inner - side_margins(style))
    return given_width(style, inner)
