"""The layout values of nodes (point 101)."""

# The properties that no layout depends on.
PAINT_ONLY = ("align", "background", "border_color", "clip", "color", "level")


def layout_values(page, styles, nodes):
    """Returns a dict from each shown node to its part of the layout values.

    The part is a tuple (parent, kind, string, properties, children) with the list of the shown
    children: with the parts of all nodes below it, it says the same as the layout value.
    """
    found = {}
    for node in nodes:
        style = styles[node]
        properties = {name: style[name] for name in style if name not in PAINT_ONLY}
        parent = page.parent(node)
        found[node] = (parent, page.kind(node), page.text(node), properties, [])
        if parent in found:
            found[parent][4].append(node)
    return found


def same_values(values, old):
    """Returns a dict of True for the nodes whose layout value is the same as that in the old dict."""
    same = {}
    # The children of a node come after it in document order.
    for node in reversed(list(values)):
        if node in old and values[node] == old[node]:
            if all([child in same for child in values[node][4]]):
                same[node] = True
    return same
