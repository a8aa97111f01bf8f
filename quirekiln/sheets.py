"""Sheets: which nodes are sheets, what lies on them, and what carries a node (points 75 and 113)."""

from quirekiln.tree import NOBODY, ROOT


def is_sheet(page, styles, node):
    """Returns True if a shown node is a sheet, otherwise False."""
    if page.kind(node) == "text":
        return False
    return node == ROOT or styles[node]["place"] != "flow"


def sheets_below(page, styles, nodes):
    """Returns a dict from each shown node to its nearest ancestor that is a sheet, 0 for the root.

    For a free box this is the holder, too. The nodes are those that are shown, in document order.
    """
    found = {}
    for node in nodes:
        parent = page.parent(node)
        if parent == NOBODY or is_sheet(page, styles, parent):
            found[node] = parent
        else:
            found[node] = found[parent]
    return found


def lying_on(page, styles, nodes):
    """Returns a dict from each shown node to the list of the sheets that lie on it."""
    below = sheets_below(page, styles, nodes)
    found = {node: [] for node in nodes}
    for node in nodes:
        if node != ROOT and is_sheet(page, styles, node):
            found[below[node]].append(node)
    return found


def carriers(page, styles, nodes):
    """Returns a dict from each shown node to the node that carries it, 0 for the root."""
    below = sheets_below(page, styles, nodes)
    found = {}
    for node in nodes:
        is_free = is_sheet(page, styles, node) and styles[node]["place"] == "free"
        found[node] = below[node] if is_free else page.parent(node)
    return found


def paint_order(page, styles, nodes):
    """Returns the list of the shown nodes, from the one that is painted first to the last one."""
    below = sheets_below(page, styles, nodes)
    flat = {node: [] for node in nodes}
    for node in nodes:
        if not is_sheet(page, styles, node):
            flat[below[node]].append(node)
    return _sheet_order(ROOT, styles, flat, lying_on(page, styles, nodes))


def _sheet_order(sheet, styles, flat, lying):
    """Returns the nodes of a sheet and of all sheets on it, in the order of painting."""
    # The document order remains where the levels are equal.
    stack = sorted(lying[sheet], key=lambda node: styles[node]["level"])
    order = [sheet]
    for node in stack:
        if styles[node]["level"] < 0:
            order.extend(_sheet_order(node, styles, flat, lying))
    order.extend(flat[sheet])
    for node in stack:
        if styles[node]["level"] >= 0:
            order.extend(_sheet_order(node, styles, flat, lying))
    return order
