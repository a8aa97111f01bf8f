"""The layout of a page from nothing: results, needed tasks, rectangles (points 75 to 89)."""

from quirekiln.laying import Layout, root_task
from quirekiln.placing import Placing
from quirekiln.styles import shown


def lay(page, styles, node, width, height):
    """Returns the result (height, places) of a task."""
    task = (node, width, height)
    layout = _new_layout(page, styles)
    return (layout.outcome(task).height, layout.places_of(task))


def needed(page, styles):
    """Returns the list of the needed tasks in the order in which they are finished."""
    return list(_whole_layout(page, styles).finished)


def rectangles(page, styles):
    """Returns a dict from the id of each shown node to its rectangle."""
    return Placing(_whole_layout(page, styles)).rects


def scrolled(page, styles, node):
    """Returns the pair of the amounts by which a shown node is scrolled."""
    return Placing(_whole_layout(page, styles)).amounts[node]


def _new_layout(page, styles):
    return Layout(page, styles, shown(page, styles), kept={}, known={})


def _whole_layout(page, styles):
    """Returns a layout in which the needed tasks are finished."""
    layout = _new_layout(page, styles)
    layout.outcome(root_task(page, styles))
    return layout
