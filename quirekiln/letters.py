"""The widths of characters and strings (point 55)."""

# The characters of 1 unit and of 3 units. A newline has none, every other character has 2.
NARROW = " .,':;!|ijl"
WIDE = "mwMW@"


def advance(char, size):
    """Returns the width of one character."""
    if char == "\n":
        return 0
    if char in NARROW:
        return size
    if char in WIDE:
        return 3 * size
    return 2 * size


def text_width(string, size):
    """Returns the width of a string."""
    return sum([advance(char, size) for char in string])


def offsets(string, size):
    """Returns the list of the widths of all beginnings of a string, from the empty one on."""
    found = [0]
    for char in string:
        found.append(found[-1] + advance(char, size))
    return found
