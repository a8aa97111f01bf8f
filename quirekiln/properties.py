"""The properties of boxes: their values, first values and inheritance (point 40)."""

from quirekiln.kinds import is_within

# For each property: its first value, whether it is inherited, the words that are allowed, and
# the least and the greatest number that are allowed.
PROPERTIES = {
    "display": ("block", False, ("block", "row", "grid", "none"), ()),
    "place": ("flow", False, ("flow", "shifted", "free"), ()),
    "left": (0, False, (), (-1000, 1000)),
    "top": (0, False, (), (-1000, 1000)),
    "width": ("auto", False, ("auto",), (0, 1000)),
    "height": ("auto", False, ("auto",), (0, 1000)),
    "least_width": (0, False, (), (0, 1000)),
    "most_width": (1000, False, (), (0, 1000)),
    "margin_left": (0, False, (), (0, 100)),
    "margin_right": (0, False, (), (0, 100)),
    "margin_top": (0, False, (), (0, 100)),
    "margin_bottom": (0, False, (), (0, 100)),
    "padding": (0, False, (), (0, 100)),
    "border": (0, False, (), (0, 100)),
    "border_color": (1, False, (), (1, 255)),
    "background": (0, False, (), (0, 255)),
    "color": (1, True, (), (1, 255)),
    "size": (2, True, (), (1, 20)),
    "lead": (0, True, (), (0, 20)),
    "align": ("left", True, ("left", "center", "right", "full"), ()),
    "grow": (0, False, (), (0, 100)),
    "shrink": (1, False, (), (0, 100)),
    "gap": (0, False, (), (0, 100)),
    "columns": (2, False, (), (1, 10)),
    "clip": ("open", False, ("open", "cut", "scroll"), ()),
    "level": (0, False, (), (-100, 100)),
}

# The only property that may also be a part of the room: ("part", n).
WITH_PARTS = "width"
MOST_PART = 100


def property_names():
    """Returns the list of all properties in ascending order."""
    return sorted(PROPERTIES)


def is_property(name):
    """Returns True if this is the name of a property, otherwise False."""
    return isinstance(name, str) and name in PROPERTIES


def first_value(name):
    """Returns the value of a property that nothing else gives."""
    return PROPERTIES[name][0]


def is_inherited(name):
    """Returns True if boxes take over the value of their parent, otherwise False."""
    return PROPERTIES[name][1]


def is_allowed(name, value):
    """Returns True if the property may have this value, otherwise False."""
    words, bounds = PROPERTIES[name][2:]
    if isinstance(value, str):
        return value in words
    if isinstance(value, tuple):
        return name == WITH_PARTS and _is_part(value)
    return bounds != () and is_within(value, bounds[0], bounds[1])


def _is_part(value):
    return len(value) == 2 and value[0] == "part" and is_within(value[1], 0, MOST_PART)
