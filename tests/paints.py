"""A slow model of points 101 to 125 that follows their words, on top of the model of the layout."""

from layouts import Model
from texts import lines_of, places_of, words_of

PAINT_ONLY = ("color", "background", "border_color", "level", "clip", "align")


def common(first, second):
    """The cells that two rectangles have in common, as (x, y, w, h)."""
    left, top = max(first[0], second[0]), max(first[1], second[1])
    right = min(first[0] + first[2], second[0] + second[2])
    bottom = min(first[1] + first[3], second[1] + second[3])
    return (left, top, right - left, bottom - top) if right > left and bottom > top else (0, 0, 0, 0)


def covers(rect, x, y):
    """Whether a rectangle covers a cell."""
    return rect[0] <= x < rect[0] + rect[2] and rect[1] <= y < rect[1] + rect[3]


class Painter(Model):
    """What a page shows, each part as its point says it."""

    # Points 110 to 113

    def text_ink(self, node, low, high):
        """The rectangles of the ink between two indexes as (start, end, rectangle)."""
        string, style = self.page.text(node), self.styles[node]
        left, top, width, _ = self.rectangle(node)
        found = []
        for number, (line, paragraph) in enumerate(lines_of(string, style["size"], width)):
            places = places_of(string, line, paragraph, style["size"], width, style["align"])
            for start, end in words_of(string, *line):
                start, end = max(start, low), min(end, high)
                if start < end:
                    x, right = places[start - line[0]], places[end - line[0]]
                    y = number * (style["size"] + style["lead"])
                    found.append((start, end, (left + x, top + y, right - x, style["size"])))
        return found

    def cut(self, node, rect):
        """What the carriers leave of a rectangle that a node shows."""
        carrier = self.carrier(node)
        while carrier != 0:
            style = self.styles[carrier]
            if style["clip"] != "open":
                x, y, w, h = self.rectangle(carrier)
                border = style["border"]
                rect = common(rect, (x + border, y + border, w - 2 * border, h - 2 * border))
            carrier = self.carrier(carrier)
        return rect

    def items(self, node):
        """The items of a node as they are cut."""
        if self.is_text(node):
            whole = [
                ("ink", rect, self.styles[node]["color"], node, start, end)
                for start, end, rect in self.text_ink(node, 0, len(self.page.text(node)))
            ]
        else:
            whole = self.box_items(node)
        cut = [(kind, self.cut(node, rect), *rest) for kind, rect, *rest in whole]
        return [item for item in cut if item[1][2] > 0 and item[1][3] > 0]

    def box_items(self, node):
        style, (x, y, w, h), found = self.styles[node], self.rectangle(node), []
        if style["background"]:
            found.append(("ground", (x, y, w, h), style["background"], node, 0, 0))
        b = style["border"]
        for rect in [(x, y, w, b), (x, y + h - b, w, b), (x, y + b, b, h - 2 * b), (x + w - b, y + b, b, h - 2 * b)]:
            if b > 0:
                found.append(("edge", rect, style["border_color"], node, 0, 0))
        return found

    def is_sheet(self, node):
        return node == 1 or self.get(node, "place") != "flow"

    def sheet_of(self, node):
        """The nearest ancestor that is a sheet."""
        node = self.page.parent(node)
        while not self.is_sheet(node):
            node = self.page.parent(node)
        return node

    def sheet_items(self, sheet):
        """The items of a sheet with all that lies on it."""
        lying = [node for node in self.shown if node != 1 and self.is_sheet(node) and self.sheet_of(node) == sheet]
        flat = [node for node in self.shown if not self.is_sheet(node) and self.sheet_of(node) == sheet]
        found = self.items(sheet)
        for level in range(-100, 0):
            for node in lying:
                if self.styles[node]["level"] == level:
                    found += self.sheet_items(node)
        for node in flat:
            found += self.items(node)
        for level in range(0, 101):
            for node in lying:
                if self.styles[node]["level"] == level:
                    found += self.sheet_items(node)
        return found

    def painted(self):
        return self.sheet_items(1)

    # Points 101 and 125

    def layout_value(self, node):
        """The layout value of a node, in full."""
        below, found = [node], []
        for other in self.shown:
            if other == node or self.page.parent(other) in below:
                below.append(other)
                properties = {
                    name: value for name, value in self.styles[other].items() if name not in PAINT_ONLY
                }
                kind = self.page.kind(other)
                found.append((other, self.page.parent(other), kind, self.page.text(other), properties))
        return found

    def selected(self, first, last):
        """The selected parts as (node, low, high)."""
        order = [node for node in self.shown if self.is_text(node)]
        if (order.index(last[0]), last[1]) < (order.index(first[0]), first[1]):
            first, last = last, first
        found = []
        for node in order[order.index(first[0]):order.index(last[0]) + 1]:
            low = first[1] if node == first[0] else 0
            found.append((node, low, last[1] if node == last[0] else len(self.page.text(node))))
        return found

    def selection(self, first, last):
        rects = [
            self.cut(node, rect)
            for node, low, high in self.selected(first, last) for _, _, rect in self.text_ink(node, low, high)
        ]
        return [rect for rect in rects if rect[2] > 0 and rect[3] > 0]

    def selected_text(self, first, last):
        return "\n".join(self.page.text(node)[low:high] for node, low, high in self.selected(first, last))


def last_color(items, x, y):
    """The color of a cell, item by item."""
    color = 0
    for item in items:
        if covers(item[1], x, y):
            color = item[2]
    return color


def changed(old, new):
    """The list D of two lists of items."""
    old, new = list(old), list(new)
    while old and new and old[0] == new[0]:
        del old[0], new[0]
    while old and new and old[-1] == new[-1]:
        del old[-1], new[-1]
    return old + new
