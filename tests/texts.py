"""Strings for the tests, and a slow model of points 55 to 64 that follows their words."""

import random
import re

NARROW = {" ", ".", ",", "'", ":", ";", "!", "|", "i", "j", "l"}
WIDE = {"m", "w", "M", "W", "@"}
ALIGNS = ["left", "center", "right", "full"]
STRINGS = [
    "", " ", "   ", "\n", "\n\n", "a", " a", "a ", "  a  ", "\na", "a\n", " \n ", "a\n\nb", "a b", "a   b",
    "  a  b  \n   \n c\n", "one two three four", "a bb ccc dddd eeeee", "mmmmmmmmmm i mmmmmmmmmm", "iiii\niiii",
    "words of   a text, with\nthree  paragraphs\n that end here  ", "a.b, c! (d)\n~", "w" * 30, "a " * 30, "\n" * 20,
    "\n  a", "a\n\n   b  c", "\n\n   \n  a\n  ",
]


def advance_of(char, size):
    """The width of one character."""
    if char == "\n":
        return 0
    return size * (1 if char in NARROW else 3 if char in WIDE else 2)


def width_of(string, size):
    """The width of a string."""
    return sum(advance_of(char, size) for char in string)


def paragraphs_of(string):
    """The paragraphs."""
    ends = [index for index, char in enumerate(string) if char == "\n"]
    return list(zip([0] + [end + 1 for end in ends], ends + [len(string)]))


def words_of(string, start, end):
    """The words of a part."""
    return [(found.start() + start, found.end() + start) for found in re.finditer("[^ \n]+", string[start:end])]


def lines_of(string, size, width):
    """The lines, with the paragraph of each."""
    found = []
    for start, end in paragraphs_of(string):
        lines = []
        for word in words_of(string, start, end):
            if lines and width_of(string[lines[-1][0]:word[1]], size) <= width:
                lines[-1] = (lines[-1][0], word[1])
            else:
                lines.append(word)
        found += [(line, (start, end)) for line in lines or [(start, start)]]
    return found


def places_of(string, line, paragraph, size, width, align):
    """The places of a line."""
    part = string[line[0]:line[1]]
    places = [width_of(part[:count], size) for count in range(len(part) + 1)]
    rest = max(0, width - width_of(part, size))
    last = not words_of(string, line[1], paragraph[1])
    if align == "full" and not last and " " in part:
        spaces = part.count(" ")
        extra = [rest // spaces + (1 if number < rest - spaces * (rest // spaces) else 0) for number in range(spaces)]
        return [place + sum(extra[:part[:count].count(" ")]) for count, place in enumerate(places)]
    moved = {"left": 0, "full": 0, "right": rest, "center": rest // 2}[align]
    return [place + moved for place in places]


def some_strings(count, longest, seed=1):
    """Strings of few different characters; the same ones each time."""
    source = random.Random(seed)
    return ["".join(source.choices("abimW.  \n", k=source.randint(0, longest))) for _ in range(count)]
