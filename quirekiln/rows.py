"""Rows: boxes whose flow children stand beside one another (points 80 to 83)."""

from quirekiln.measures import flow_children, frame, given_width, side_margins


def grow_widths(free, bases, weights, limits):
    """Returns the widths after the free amount has been dealt out to the bases."""
    rooms = [limit - base for base, limit in zip(bases, limits)]
    gains = _deal_out(free, weights, rooms)
    return [base + gain for base, gain in zip(bases, gains)]


def shrink_widths(missing, bases, weights, limits):
    """Returns the widths after the missing amount has been taken from the bases."""
    heavy = [base * weight for base, weight in zip(bases, weights)]
    rooms = [base - limit for base, limit in zip(bases, limits)]
    losses = _deal_out(missing, heavy, rooms)
    return [base - loss for base, loss in zip(bases, losses)]


def arrange_row(layout, node, inner):
    """Lays out the flow children of a row with this inner width for the first time.

    Returns the spot (x, y, task) of each of them, and the width and height of the content.
    """
    style = layout.styles[node]
    children = flow_children(layout.page, layout.styles, node)
    widths = _row_widths(layout, style, children, inner)
    start = frame(style)
    edge = start
    tallest = 0
    spots = []
    for child, width in zip(children, widths):
        own = layout.styles[child]
        task = (child, width, "auto")
        top = own.get("margin_top", 0)
        spots.append((edge + own.get("margin_left", 0), start + top, task))
        edge += width + side_margins(own) + style["gap"]
        tallest = max(tallest, top + layout.outcome(task).height + own.get("margin_bottom", 0))
    if not spots:
        return ([], (0, 0))
    return (spots, (edge - style["gap"] - start, tallest))


def stretch_row(layout, spots, inner_height):
    """Lays out again the boxes that get another height from their row; returns all spots."""
    found = []
    for x, y, task in spots:
        last = _stretched(layout, task, inner_height)
        layout.outcome(last)
        found.append((x, y, last))
    return found


def _stretched(layout, task, inner_height):
    """Returns the last task of a child of a row whose first task is this one."""
    child, width, _ = task
    style = layout.styles[child]
    # The style of a text has no height, so a text is never stretched.
    if style.get("height") != "auto":
        return task
    room = inner_height - style["margin_top"] - style["margin_bottom"]
    height = max(room, 2 * frame(style))
    if height == layout.outcome(task).height:
        return task
    return (child, width, height)


def _row_widths(layout, style, children, inner):
    """Returns the widths of the flow children of a row with this style."""
    styles = [layout.styles[child] for child in children]
    bases = [_base(layout, child, inner) for child in children]
    gaps = style["gap"] * (len(children) - 1)
    free = inner - sum(bases) - sum([side_margins(own) for own in styles]) - gaps
    if free > 0:
        weights = [own.get("grow", 0) for own in styles]
        limits = [_greatest_width(own, base) for own, base in zip(styles, bases)]
        return grow_widths(free, bases, weights, limits)
    if free < 0:
        weights = [own.get("shrink", 1) for own in styles]
        limits = [max(2 * frame(own), own.get("least_width", 0)) for own in styles]
        return shrink_widths(-free, bases, weights, limits)
    return bases


def _base(layout, child, inner):
    """Returns the width that a child of a row has before it grows or shrinks."""
    style = layout.styles[child]
    if style.get("width", "auto") == "auto":
        return layout.measures.pair(child)[1]
    return given_width(style, inner)


def _greatest_width(style, base):
    """Returns the width up to which a child grows. A text, which has no such limit, never grows."""
    return max(2 * frame(style), style.get("least_width", 0), style.get("most_width", base))


def _deal_out(amount, weights, rooms):
    """Returns what each one gets of an amount by its weight, at most the room that it has."""
    gets = [0] * len(weights)
    waiting = [number for number, weight in enumerate(weights) if weight > 0]
    while waiting:
        shares = _shares(amount, [weights[number] for number in waiting])
        full = [number for number, share in zip(waiting, shares) if share > rooms[number]]
        if not full:
            for number, share in zip(waiting, shares):
                gets[number] = share
            break
        for number in full:
            gets[number] = rooms[number]
            amount -= rooms[number]
        waiting = [number for number in waiting if number not in full]
    return gets


def _shares(amount, weights):
    """Returns the shares of an amount; the units that are left over go to the first ones."""
    total = sum(weights)
    shares = [amount * weight // total for weight in weights]
    left_over = amount - sum(shares)
    return [share + (1 if number < left_over else 0) for number, share in enumerate(shares)]
