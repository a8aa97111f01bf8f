"""Texts that are broken into lines and placed (points 60 to 65)."""

from quirekiln.lines import break_lines, place_line, words


class Setting:
    """A text that is set for a size, a lead, a width and an alignment."""

    def __init__(self, string, *, size=2, lead=0, width, align="left"):
        self.string = string
        self.size = size
        self.lead = lead
        self.width = width
        self.align = align
        self.lines = break_lines(string, size, width)

    def __iter__(self):
        return iter(self.lines)

    @property
    def total_height(self):
        """The height of all lines together."""
        return len(self.lines) * (self.size + self.lead)

    def places(self, number):
        """Returns the list of the places of the line with this number."""
        line = self.lines[number]
        return place_line(self.string, line, size=self.size, width=self.width, align=self.align)

    def ink(self):
        """Returns the list of tuples (start, end, x, y, w), one for each word."""
        return self.ink_between(0, len(self.string))

    def ink_between(self, low, high):
        """Returns the ink of the characters from index low to index high - 1."""
        found = []
        for number, (start, end) in enumerate(self.lines):
            parts = words(self.string, max(start, low), min(end, high))
            if parts:
                found.extend(self._line_ink(number, parts))
        return found

    def line_of(self, index):
        """Returns the number of the line of an index."""
        # A negative end would be counted from the end of the string.
        begin = self.string.rfind("\n", 0, max(index, 0)) + 1
        number = 0
        while self.lines[number][0] < begin:
            number += 1
        while number + 1 < len(self.lines) and self.lines[number + 1][0] <= index:
            number += 1
        return number

    def caret(self, index):
        """Returns the point (x, y) at which the caret of an index stands."""
        number = self.line_of(index)
        start, end = self.lines[number]
        on_line = min(max(index, start), end)
        return (self.places(number)[on_line - start], self._top(number))

    def index_near(self, x, y):
        """Returns the index on the line at height y whose place has the least distance from x."""
        # A height of 0 is beyond what a size can be, but raises no error either.
        number = y // max(1, self.size + self.lead)
        number = min(max(number, 0), len(self.lines) - 1)
        places = self.places(number)
        best = 0
        for index, place in enumerate(places):
            if abs(place - x) < abs(places[best] - x):
                best = index
        return self.lines[number][0] + best

    def _top(self, number):
        return number * (self.size + self.lead)

    def _line_ink(self, number, parts):
        """Returns the ink of these parts of one line."""
        start = self.lines[number][0]
        places = self.places(number)
        found = []
        for low, high in parts:
            x = places[low - start]
            found.append((low, high, x, self._top(number), places[high - start] - x))
        return found
