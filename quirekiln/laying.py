"""Tasks and their results (points 75 to 78, 86 and 87).

A spot is a tuple (x, y, task): where a child stands in a box, and the child's last task there.
"""

from quirekiln.blocks import arrange_block
from quirekiln.grids import arrange_grid
from quirekiln.lines import break_lines
from quirekiln.measures import Measures, frame, given_width
from quirekiln.rows import arrange_row, stretch_row
from quirekiln.sheets import lying_on
from quirekiln.tree import ROOT


class Outcome:
    """What is known of a finished task.

    Its height, the width and height of its content, the spots of the flow children and then of
    the held boxes, and the tasks that it required.
    """

    def __init__(self, height, content, spots, required):
        self.height = height
        self.content = content
        self.spots = spots
        self.required = required


class Layout:
    """The tasks of a page. Each one is laid out once, or taken over from an earlier layout."""

    def __init__(self, page, styles, nodes, *, kept, known):
        self.page = page
        self.styles = styles
        # The shown nodes in document order.
        self.order = nodes
        self.measures = Measures(page, styles, known)
        # The finished tasks in the order in which they were finished, with their outcomes.
        self.finished = {}
        # The tasks that were laid out here and not taken over.
        self.newly = []
        self._kept = kept
        self._on_sheets = lying_on(page, styles, nodes)

    def outcome(self, task):
        """Returns the outcome of a task, which is finished then."""
        if task not in self.finished:
            if task in self._kept:
                self._take_over(task)
            else:
                found = self._laid_out(task)
                self.finished[task] = found
                self.newly.append(task)
        return self.finished[task]

    def places_of(self, task):
        """Returns the places (child, x, y, width, height) in the result of a finished task."""
        found = []
        for x, y, (child, width, height) in self.finished[task].spots:
            found.append((child, x, y, width, self.finished[(child, width, height)].height))
        return found

    def followed_by(self, page, styles, nodes, same):
        """Returns a layout that takes over what is known of the nodes that are the same."""
        kept = {task: self.finished[task] for task in self.finished if task[0] in same}
        known = {node: self.measures.known[node] for node in self.measures.known if node in same}
        return Layout(page, styles, nodes, kept=kept, known=known)

    def _take_over(self, task):
        """Finishes a kept task and all that it required, which are tasks of nodes that are the same."""
        found = self._kept[task]
        for other in found.required:
            if other not in self.finished:
                self._take_over(other)
        self.finished[task] = found

    def _laid_out(self, task):
        node, width, _ = task
        if self.page.kind(node) == "text":
            return self._text_outcome(node, width)
        return self._box_outcome(task)

    def _text_outcome(self, node, width):
        style = self.styles[node]
        lines = break_lines(self.page.text(node), style["size"], width)
        height = len(lines) * (style["size"] + style["lead"])
        return Outcome(height, (0, 0), [], [])

    def _box_outcome(self, task):
        style = self.styles[task[0]]
        around = 2 * frame(style)
        first, content = self._arranged(task[0], max(0, task[1] - around))
        height = self._outer_height(task, content[1] + around)
        last = first
        if style["display"] == "row":
            last = stretch_row(self, first, max(0, height - around))
        held = self._held_spots(task[0], task[1])
        required = [other for x, y, other in first + last + held]
        return Outcome(height, content, last + held, required)

    def _arranged(self, node, inner):
        """Returns the spots of the flow children, at first, and the width and height of the content."""
        display = self.styles[node]["display"]
        if display == "row":
            return arrange_row(self, node, inner)
        if display == "grid":
            return arrange_grid(self, node, inner)
        return arrange_block(self, node, inner)

    def _outer_height(self, task, needed_height):
        """Returns the height of the result; the height that its content needs has the frame with it."""
        node, _, height = task
        style = self.styles[node]
        if height != "auto":
            return height
        if node == ROOT or style["height"] == "auto":
            return needed_height
        return max(style["height"], 2 * frame(style))

    def _held_spots(self, node, width):
        """Lays out the boxes that a box of this width holds and returns their spots."""
        border = self.styles[node]["border"]
        room = max(0, width - 2 * border)
        spots = []
        for child in self._on_sheets[node]:
            style = self.styles[child]
            if style["place"] == "free":
                task = (child, self._free_width(child, room), "auto")
                self.outcome(task)
                spots.append((border + style["left"], border + style["top"], task))
        return spots

    def _free_width(self, node, room):
        """Returns the width of a free box in a room."""
        style = self.styles[node]
        if style["width"] != "auto":
            return given_width(style, room)
        least, most = self.measures.pair(node)
        return min(most, max(least, room - style["left"]))


def root_task(page, styles):
    """Returns the task with which the whole layout begins."""
    return (ROOT, max(page.width, 2 * frame(styles[ROOT])), "auto")
