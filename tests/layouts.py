"""Pages for the layout tests, and a slow model of points 70 to 89 that follows their words."""

import random

from quirekiln.errors import PageError
from quirekiln.page import Page
from texts import lines_of, paragraphs_of, width_of, words_of

STRINGS = ["", "a", "one two", "  some more words, here  ", "x\ny z\n", "mmmm iiii aaaa", "a b c d e f g", "\n"]
LAYOUT_VALUES = {
    "display": ["block", "block", "row", "row", "grid", "grid", "none"],
    "place": ["flow", "flow", "shifted", "free", "free"],
    "left": [-20, 0, 3, 40], "top": [-9, 0, 5],
    "width": ["auto", "auto", 0, 7, 30, 120, ("part", 0), ("part", 33), ("part", 100)],
    "height": ["auto", "auto", "auto", 0, 5, 25],
    "least_width": [0, 0, 9, 50], "most_width": [1000, 1000, 0, 20, 60],
    "margin_left": [0, 2, 7], "margin_right": [0, 1, 5], "margin_top": [0, 3, 8], "margin_bottom": [0, 2, 6],
    "padding": [0, 1, 4], "border": [0, 1, 3],
    "size": [1, 2, 3], "lead": [0, 1], "align": ["left", "center", "right", "full"],
    "grow": [0, 1, 3], "shrink": [0, 1, 2], "gap": [0, 1, 4], "columns": [1, 2, 3, 5],
    "clip": ["open", "cut", "scroll"],
}
PAINT_VALUES = {
    "background": [0, 3, 9], "border_color": [1, 7], "color": [1, 5], "level": [-2, -1, 0, 0, 1, 2],
}


def random_tree(source, count, values):
    """A page with about this many nodes and with own properties from these values."""
    page = Page(source.choice([0, 40, 100, 200]), source.choice([0, 30, 90]))
    boxes = [1]
    for _ in range(count):
        parent = source.choice(boxes[-6:])
        try:
            if source.random() < 0.35:
                page.insert_text(parent, source.randint(0, len(page.children(parent))), source.choice(STRINGS))
            else:
                boxes.append(page.insert_box(parent, source.randint(0, len(page.children(parent))), "a"))
        except PageError:
            continue
    for box in boxes:
        for _ in range(source.randint(0, 6)):
            name = source.choice(sorted(values))
            page.set_own(box, name, source.choice(values[name]))
        page.scroll_to(box, source.choice([0, 2, 500]), source.choice([0, 3, 500]))
    return page


def random_trees(count, nodes, seed=1, values=None):
    """Pages with random trees; the same ones each time."""
    source = random.Random(seed)
    for _ in range(count):
        yield random_tree(source, source.randint(0, nodes), values or LAYOUT_VALUES)


def styled_page(width, height, *sketch):
    """A page from a sketch: a string is a text, a pair a box with its properties and what is in it.

    The nodes have the ids 2, 3, .. in document order.
    """
    page = Page(width, height)
    fill(page, 1, sketch)
    return page


def fill(page, parent, sketch):
    """Inserts what the sketch says."""
    for part in sketch:
        index = len(page.children(parent))
        if isinstance(part, str):
            page.insert_text(parent, index, part)
        else:
            node = page.insert_box(parent, index, "a")
            for name, value in part[0].items():
                page.set_own(node, name, value)
            fill(page, node, part[1])


def tall_rows(depth):
    """Rows within rows, each beside a box that is higher than all further in."""
    page = Page(1000, 1000)
    row = 1
    for number in range(depth):
        row = page.insert_box(row, 0, "a")
        page.set_own(row, "display", "row")
        for place in ("flow", "free"):
            box = page.insert_box(row, 0, "b")
            page.set_own(box, "width", ("part", 20))
            page.set_own(box, "place", place)
            page.set_own(box, "height", 2 * (depth - number))
            page.set_own(page.insert_box(box, 0, "c"), "display", "row")
    page.insert_text(row, 0, "ab cd")
    return page


class Model:
    """The layout of a page, each number as its point says it."""

    def __init__(self, page, styles):
        self.page, self.styles = page, styles
        self.done, self.seen = {}, {}
        self.shown = [node for node in page.nodes() if self.is_shown(node)]

    def is_text(self, node):
        return self.page.kind(node) == "text"

    def is_shown(self, node):
        while node != 0:
            if self.styles[node].get("display") == "none":
                return False
            node = self.page.parent(node)
        return True

    def get(self, node, name):
        """A property, for a text as point 75 says it."""
        if self.is_text(node) and name not in ("size", "lead"):
            return {"shrink": 1, "place": "flow"}.get(name, 0)
        return self.styles[node][name]

    def frame(self, node):
        return self.get(node, "border") + self.get(node, "padding")

    def bounded(self, node, width):
        width = min(width, self.get(node, "most_width"))
        return max([width, self.get(node, "least_width"), 2 * self.frame(node)])

    def flow(self, node):
        return [
            child for child in self.page.children(node)
            if self.is_text(child) or self.styles[child]["display"] != "none" and self.styles[child]["place"] != "free"
        ]

    def margins(self, node):
        return self.get(node, "margin_left") + self.get(node, "margin_right")

    # Measures

    def measure(self, node, which):
        key = (node, which)
        if key not in self.seen:
            self.seen[key] = self.text_measure(node, which) if self.is_text(node) else self.box_measure(node, which)
        return self.seen[key]

    def text_measure(self, node, which):
        string, size = self.page.text(node), self.styles[node]["size"]
        if which == "narrow":
            return max([width_of(string[low:high], size) for low, high in words_of(string, 0, len(string))], default=0)
        return max(width_of(string[low:high].strip(" "), size) for low, high in paragraphs_of(string))

    def box_measure(self, node, which):
        given = self.styles[node]["width"]
        if isinstance(given, int):
            return self.bounded(node, given)
        display, gap = self.styles[node]["display"], self.styles[node]["gap"]
        outer = [self.measure(child, which) + self.margins(child) for child in self.flow(node)]
        if display == "block":
            inside = max(outer, default=0)
        elif display == "row":
            inside = sum(outer) + gap * (len(outer) - 1) if outer else 0
        else:
            columns = self.columns(node, which)
            inside = sum(columns) + gap * (len(columns) - 1)
        return self.bounded(node, inside + 2 * self.frame(node))

    def columns(self, node, which):
        widths = [0] * self.styles[node]["columns"]
        for number, child in enumerate(self.flow(node)):
            column = number % len(widths)
            widths[column] = max(widths[column], self.measure(child, which) + self.margins(child))
        return widths

    # Tasks: each result is (height, places, last tasks, (content width, content height)).

    def lay(self, node, width, height):
        key = (node, width, height)
        if key not in self.done:
            found = self.lay_text(node, width) if self.is_text(node) else self.lay_box(node, width, height)
            self.done[key] = found
        return self.done[key]

    def lay_text(self, node, width):
        size, lead = self.styles[node]["size"], self.styles[node]["lead"]
        return len(lines_of(self.page.text(node), size, width)) * (size + lead), [], [], (0, 0)

    def lay_box(self, node, width, height):
        frame = self.frame(node)
        inner = max(0, width - 2 * frame)
        flow = self.flow(node)
        lay = {"block": self.lay_block, "row": self.lay_row, "grid": self.lay_grid}[self.styles[node]["display"]]
        spots, tasks, content = lay(node, flow, inner, frame)
        if height == "auto":
            height = self.styles[node]["height"] if node != 1 else "auto"
            height = content[1] + 2 * frame if height == "auto" else max(height, 2 * frame)
        if self.styles[node]["display"] == "row":
            tasks = [self.stretch(task, max(0, height - 2 * frame)) for task in tasks]
        border = self.styles[node]["border"]
        room = max(0, width - 2 * border)
        for child in self.shown:
            if self.get(child, "place") == "free" and self.holder(child) == node:
                tasks.append((child, self.free_width(child, room), "auto"))
                spots.append((border + self.styles[child]["left"], border + self.styles[child]["top"]))
                self.lay(*tasks[-1])
        places = [(task[0], *spot, task[1], self.lay(*task)[0]) for task, spot in zip(tasks, spots)]
        return height, places, tasks, content

    def given(self, node, room):
        width = self.styles[node]["width"]
        return self.bounded(node, room * width[1] // 100 if isinstance(width, tuple) else width)

    def lay_block(self, node, flow, inner, frame):
        spots, tasks, edge, below, content = [], [], frame, None, 0
        for child in flow:
            if self.is_text(child):
                width = inner
            elif self.styles[child]["width"] == "auto":
                width = self.bounded(child, inner - self.margins(child))
            else:
                width = self.given(child, inner)
            above = self.get(child, "margin_top")
            edge += above if below is None else max(below, above)
            below = self.get(child, "margin_bottom")
            spots.append((frame + self.get(child, "margin_left"), edge))
            tasks.append((child, width, "auto"))
            edge += self.lay(*tasks[-1])[0]
            content = max(content, width + self.margins(child))
        return spots, tasks, (content, edge + below - frame if flow else 0)

    def lay_row(self, node, flow, inner, frame):
        gap = self.styles[node]["gap"]
        widths = self.row_widths(flow, inner, gap)
        tasks = [(child, width, "auto") for child, width in zip(flow, widths)]
        spots, edge = [], frame
        for child, width in zip(flow, widths):
            edge += self.get(child, "margin_left")
            spots.append((edge, frame + self.get(child, "margin_top")))
            edge += width + self.get(child, "margin_right") + gap
        tall = [
            self.get(task[0], "margin_top") + self.lay(*task)[0] + self.get(task[0], "margin_bottom") for task in tasks
        ]
        content = sum(widths) + sum(self.margins(child) for child in flow) + gap * (len(flow) - 1) if flow else 0
        return spots, tasks, (content, max(tall, default=0))

    def row_widths(self, flow, inner, gap):
        bases = []
        for child in flow:
            if self.is_text(child) or self.styles[child]["width"] == "auto":
                bases.append(self.measure(child, "wide"))
            else:
                bases.append(self.given(child, inner))
        free = inner - sum(bases) - sum(self.margins(child) for child in flow) - gap * max(0, len(flow) - 1)
        low = [max(2 * self.frame(child), self.get(child, "least_width")) for child in flow]
        if free > 0:
            high = [
                10 ** 9 if self.is_text(child) else max(least, self.styles[child]["most_width"])
                for child, least in zip(flow, low)
            ]
            return model_grown(free, bases, [self.get(child, "grow") for child in flow], high)
        if free < 0:
            return model_shrunk(-free, bases, [self.get(child, "shrink") for child in flow], low)
        return bases

    def stretch(self, task, inner_height):
        child, width, _ = task
        if self.is_text(child) or self.styles[child]["height"] != "auto":
            return task
        wanted = inner_height - self.styles[child]["margin_top"] - self.styles[child]["margin_bottom"]
        wanted = max(wanted, 2 * self.frame(child))
        if wanted == self.lay(*task)[0]:
            return task
        self.lay(child, width, wanted)
        return (child, width, wanted)

    def lay_grid(self, node, flow, inner, frame):
        gap, many = self.styles[node]["gap"], self.styles[node]["columns"]
        room = max(0, inner - gap * (many - 1))
        widths = model_columns(self.columns(node, "narrow"), self.columns(node, "wide"), room)
        spots, tasks, tops, tallest = [], [], [frame], []
        for number, child in enumerate(flow):
            column = number % many
            if number and column == 0:
                tops.append(tops[-1] + tallest.pop() + gap)
            width = max(widths[column] - self.margins(child), 2 * self.frame(child))
            left = frame + sum(widths[:column]) + gap * column + self.get(child, "margin_left")
            spots.append((left, tops[-1] + self.get(child, "margin_top")))
            tasks.append((child, width, "auto"))
            tall = self.get(child, "margin_top") + self.lay(*tasks[-1])[0] + self.get(child, "margin_bottom")
            tallest = [max([tall] + tallest)] if column else [tall]
        if not flow:
            return [], [], (0, 0)
        return spots, tasks, (sum(widths) + gap * (many - 1), tops[-1] + tallest[0] - frame)

    def holder(self, node):
        """The nearest ancestor whose place is not flow, or the root."""
        node = self.page.parent(node)
        while node != 1 and self.styles[node]["place"] == "flow":
            node = self.page.parent(node)
        return node

    def carrier(self, node):
        """The carrier of a node, 0 for the root."""
        if node != 1 and self.get(node, "place") == "free":
            return self.holder(node)
        return self.page.parent(node)

    def free_width(self, node, room):
        if self.styles[node]["width"] != "auto":
            return self.given(node, room)
        low, high = self.measure(node, "narrow"), self.measure(node, "wide")
        return min(high, max(low, room - self.styles[node]["left"]))

    # The whole page

    def root_task(self):
        return (1, max(self.page.width, 2 * self.frame(1)), "auto")

    def needed(self):
        self.lay(*self.root_task())
        return list(self.done)

    def last_task(self, node):
        """The last task of a node."""
        if node == 1:
            return self.root_task()
        tasks = self.lay(*self.last_task(self.carrier(node)))[2]
        return [task for task in tasks if task[0] == node][0]

    def scrolled(self, node):
        if self.is_text(node) or self.styles[node]["clip"] != "scroll":
            return (0, 0)
        padding, border = self.styles[node]["padding"], self.styles[node]["border"]
        content = self.lay(*self.last_task(node))[3]
        size = self.rectangle(node)[2:]
        most = [content[side] + 2 * padding - (size[side] - 2 * border) for side in (0, 1)]
        return tuple(max(0, min(self.page.scroll(node)[side], most[side])) for side in (0, 1))

    def rectangle(self, node):
        if node in self.seen:
            return self.seen[node]
        task = self.last_task(node)
        height = self.lay(*task)[0]
        if node == 1:
            rect = (0, 0, task[1], max(self.page.height, height))
        else:
            carrier = self.carrier(node)
            place = [place for place in self.lay(*self.last_task(carrier))[1] if place[0] == node][0]
            start, moved = self.rectangle(carrier), self.scrolled(carrier)
            x, y = start[0] + place[1] - moved[0], start[1] + place[2] - moved[1]
            if self.get(node, "place") == "shifted":
                x, y = x + self.styles[node]["left"], y + self.styles[node]["top"]
            rect = (x, y, place[3], place[4])
        self.seen[node] = rect
        return rect

    def rectangles(self):
        return {node: self.rectangle(node) for node in self.shown}


def model_grown(free, bases, weights, limits):
    """Point 81, child by child."""
    widths, settled = list(bases), set()
    while True:
        part = [number for number, weight in enumerate(weights) if weight > 0 and number not in settled]
        if not part:
            return widths
        total = sum(weights[number] for number in part)
        share = {number: free * weights[number] // total for number in part}
        for number in part[:free - sum(share.values())]:
            share[number] += 1
        over = [number for number in part if bases[number] + share[number] > limits[number]]
        for number in over:
            settled.add(number)
            widths[number] = limits[number]
            free -= limits[number] - bases[number]
        if not over:
            for number in part:
                widths[number] = bases[number] + share[number]
            return widths


def model_shrunk(missing, bases, weights, limits):
    """Point 82: growing downwards, from the negative bases to the negative limits."""
    heavy = [weight * base for weight, base in zip(weights, bases)]
    widths = model_grown(missing, [-base for base in bases], heavy, [-limit for limit in limits])
    return [-width for width in widths]


def model_columns(narrows, wides, room):
    """Point 85."""
    least, most, count = sum(narrows), sum(wides), len(wides)
    if most <= room:
        widths = [wide + (room - most) // count for wide in wides]
        differ = list(range(count))
    elif least >= room:
        return list(narrows)
    else:
        widths = [low + (room - least) * (high - low) // (most - least) for low, high in zip(narrows, wides)]
        differ = [number for number in range(count) if narrows[number] != wides[number]]
    for number in differ[:room - sum(widths)]:
        widths[number] += 1
    return widths
