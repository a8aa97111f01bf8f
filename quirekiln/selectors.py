"""Selectors: how they are written, which boxes they match, and their weight (points 42 to 45)."""

from quirekiln.errors import BadSelector
from quirekiln.kinds import is_word

MOST_CHARACTERS = 100
MOST_STEPS = 4

# What stands before a step, for each joint.
BEFORE = {"": "", " ": " ", ">": " > "}


def parse_selector(text):
    """Returns the steps of a selector as tuples (joint, name, marks)."""
    if not isinstance(text, str) or len(text) > MOST_CHARACTERS:
        raise BadSelector(text)
    steps = []
    joint = ""
    for part in text.split(" "):
        if part == ">" and joint == " ":
            joint = ">"
            continue
        step = _parse_step(joint, part)
        if step is None:
            raise BadSelector(text)
        steps.append(step)
        joint = " "
    if joint == ">" or len(steps) > MOST_STEPS:
        raise BadSelector(text)
    return tuple(steps)


def write_selector(steps):
    """Returns the selector that has these steps."""
    text = ""
    for joint, name, marks in steps:
        text += BEFORE[joint] + name + "".join([f".{mark}" for mark in marks])
    return text


def weight(steps):
    """Returns the number of the marks and the number of the steps with a word as name."""
    many_marks = sum([len(marks) for joint, name, marks in steps])
    names = [name for joint, name, marks in steps if name not in ("*", "")]
    return (many_marks, len(names))


def matches(page, node, steps):
    """Returns True if the selector with these steps matches the node, otherwise False."""
    if page.kind(node) == "text":
        return False
    boxes = []
    while node != 0:
        boxes.append(node)
        node = page.parent(node)
    trail = start_trail(steps)
    for box in reversed(boxes):
        trail = next_trail(steps, page.name(box), page.marks(box), trail)
    return ends_here(trail)


def start_trail(steps):
    """Returns the trail of a selector above the root.

    A trail of a box is a pair (here, passed) of lists with one item for each step: whether a
    chain from the first step to this one ends at the box itself, and whether one ends at the box
    or at an ancestor. With it, no chain has to be tried twice on the way down.
    """
    nowhere = [False] * len(steps)
    return (nowhere, nowhere)


def next_trail(steps, name, marks, trail):
    """Returns the trail of a box with this name and these marks below a box with that trail."""
    at_parent, above = trail
    here = []
    for number, (joint, wanted, needed) in enumerate(steps):
        if number == 0:
            is_led_to = True
        elif joint == ">":
            is_led_to = at_parent[number - 1]
        else:
            is_led_to = above[number - 1]
        here.append(is_led_to and _fits(wanted, needed, name, marks))
    return (here, [now or before for now, before in zip(here, above)])


def ends_here(trail):
    """Returns True if the whole selector matches the box of the trail, otherwise False."""
    return trail[0][-1]


def _parse_step(joint, part):
    """Returns the step that is written like this, or None if it is not a step."""
    if part == "*":
        return (joint, "*", ())
    name, *marks = part.split(".")
    if name == "" and not marks:
        return None
    if name != "" and not is_word(name):
        return None
    if not all([is_word(mark) for mark in marks]) or len(set(marks)) < len(marks):
        return None
    return (joint, name, tuple(marks))


def _fits(wanted, needed, name, marks):
    """Returns True if a step with the first two matches a box with the last two."""
    if wanted not in ("*", "", name):
        return False
    return all([mark in marks for mark in needed])
