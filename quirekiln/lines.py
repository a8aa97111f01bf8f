"""The paragraphs, words and lines of a text, and the places on a line (points 56 to 59)."""

from quirekiln.letters import offsets


def paragraphs(string):
    """Returns the list of the paragraphs as (start, end)."""
    found = []
    start = 0
    for part in string.split("\n"):
        found.append((start, start + len(part)))
        start += len(part) + 1
    return found


def words(string, start, end):
    """Returns the list of the words as (start, end) within a part of a text."""
    found = []
    begin = None
    high = min(end, len(string))
    for index in range(max(start, 0), high):
        if string[index] in (" ", "\n"):
            if begin is not None:
                found.append((begin, index))
            begin = None
        elif begin is None:
            begin = index
    if begin is not None:
        found.append((begin, high))
    return found


def break_lines(string, size, width):
    """Returns the list of the lines as (start, end) for a width."""
    sums = offsets(string, size)
    found = []
    for start, end in paragraphs(string):
        found.extend(_break_paragraph(words(string, start, end), sums, width) or [(start, start)])
    return found


def ends_paragraph(string, line):
    """Returns True if no word of its paragraph follows the line, otherwise False."""
    rest = string[line[1]:].partition("\n")[0]
    return rest.strip(" ") == ""


def place_line(string, line, *, size, width, align="left"):
    """Returns the list of the places of a line's characters and of the place behind the last."""
    part = string[line[0]:line[1]]
    places = offsets(part, size)
    rest = max(0, width - places[-1])
    if align == "full":
        if ends_paragraph(string, line):
            return places
        return _widen_spaces(part, places, rest)
    moves = {"left": 0, "center": rest // 2, "right": rest}
    return [place + moves[align] for place in places]


def _break_paragraph(parts, sums, width):
    """Returns the lines of the words of one paragraph; sums are the offsets of the text."""
    found = []
    for start, end in parts:
        if found and sums[end] - sums[found[-1][0]] <= width:
            found[-1] = (found[-1][0], end)
        else:
            found.append((start, end))
    return found


def _widen_spaces(part, places, rest):
    """Returns the places after the rest has been dealt out to the spaces, the first ones first."""
    many = part.count(" ")
    if many == 0:
        return places
    share, left_over = divmod(rest, many)
    found = [places[0]]
    moved = 0
    passed = 0
    for index, char in enumerate(part):
        if char == " ":
            moved += share + (1 if passed < left_over else 0)
            passed += 1
        found.append(places[index + 1] + moved)
    return found
