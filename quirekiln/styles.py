"""The computed styles of the nodes of a page, and which nodes are shown (points 46 to 48)."""

from quirekiln.properties import first_value, is_inherited, property_names
from quirekiln.selectors import ends_here, next_trail, parse_selector, start_trail, weight


def computed(page):
    """Returns a dict from the id of each node to its computed style."""
    rules = _rules_by_weight(page)
    firsts = {name: first_value(name) for name in property_names()}
    inherited = [name for name in firsts if is_inherited(name)]
    trails = {0: [start_trail(steps) for steps, given in rules]}
    styles = {}
    for node in page.nodes():
        parent = page.parent(node)
        passed_on = firsts if parent == 0 else styles[parent]
        style = {name: passed_on[name] for name in inherited}
        if page.kind(node) == "box":
            trails[node] = _trails(page, node, rules, trails[parent])
            style = {**firsts, **style}
            for (steps, given), trail in zip(rules, trails[node]):
                if ends_here(trail):
                    style.update(given)
            style.update(page.own(node))
        if parent == 0:
            style.update({"display": "block", "place": "flow"})
        styles[node] = style
    return styles


def shown(page, styles):
    """Returns the list of the ids of the shown nodes in document order."""
    found = {}
    for node in page.nodes():
        parent = page.parent(node)
        if parent != 0 and parent not in found:
            continue
        if page.kind(node) == "text" or styles[node]["display"] != "none":
            found[node] = True
    return list(found)


def _rules_by_weight(page):
    """Returns the rules as (steps, dict), so that each one prevails over all before it."""
    rules = [(parse_selector(selector), given) for selector, given in page.rules()]
    # The order of the rules remains where the weights are equal.
    return sorted(rules, key=lambda rule: weight(rule[0]))


def _trails(page, node, rules, trails):
    """Returns the trails of all rules at a box below a box with those trails."""
    name = page.name(node)
    marks = page.marks(node)
    found = []
    for (steps, given), trail in zip(rules, trails):
        found.append(next_trail(steps, name, marks, trail))
    return found
