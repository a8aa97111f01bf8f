"""The engine: what a page shows, brought up to date with the work that edits require (points 100 to 104)."""

from quirekiln.clipping import clips
from quirekiln.inks import set_texts
from quirekiln.laying import Layout, root_task
from quirekiln.painting import changed_items, paint_nodes
from quirekiln.pixels import paint
from quirekiln.placing import Placing
from quirekiln.plates import EMPTY, bounding, has_cell, intersect
from quirekiln.pointing import ShownTexts, hit_at, hits_at
from quirekiln.regions import region
from quirekiln.styles import computed, shown
from quirekiln.values import layout_values, same_values


class Report:
    """What a refresh did."""

    def __init__(self, laid, styled, damage):
        self.laid = laid
        self.styled = styled
        self.damage = damage


class Engine:
    """Tells of a page as it was at the last refresh. Before the first one, nothing is shown."""

    def __init__(self, page):
        self._page = page
        self._moment = None
        self._window = EMPTY
        self._values = {}
        self._layout = None
        self._rects = {}
        self._texts = ShownTexts({}, {}, {})
        self._painted = []
        self._rows = []
        # The painted items on the rows of cells that were pointed at since the last refresh.
        self._crossing = {}

    def refresh(self):
        """Brings everything up to date with the page and returns a report of it."""
        page = self._page
        styles = computed(page)
        self._renew_layout(page, styles)
        rects = Placing(self._layout).rects
        texts = set_texts(page, styles, rects, self._texts.texts)
        cut_to = clips(page, styles, rects)
        painted = paint_nodes(page, styles, rects, texts, cut_to)
        window = (0, 0, page.width, page.height)
        report = Report(list(self._layout.newly), self._styled(), self._damage(window, painted))
        self._repaint(window, painted, bounding(report.damage))
        self._rects = rects
        self._texts = ShownTexts(texts, rects, cut_to)
        self._moment = page.moment()
        return report

    def rectangles(self):
        """Returns a dict from each shown node to its rectangle."""
        return dict(self._rects)

    def painted(self):
        """Returns the list of the painted items."""
        return list(self._painted)

    def pixel(self, x, y):
        """Returns the color of a cell, 0 outside of the window."""
        if not has_cell(self._window, x, y):
            return 0
        return self._rows[y][x]

    def shot(self, rectangle):
        """Returns a list of the colors of each row of cells of the part of a rectangle in the window."""
        x, y, w, h = intersect(rectangle, self._window)
        return [row[x:x + w] for row in self._rows[y:y + h]]

    def hit(self, x, y):
        """Returns the topmost node at a cell, or 0."""
        if not has_cell(self._window, x, y):
            return 0
        return hit_at(self._items_on(y), x, y)

    def hits(self, x, y):
        """Returns the list of the nodes at a cell, from the topmost one on."""
        if not has_cell(self._window, x, y):
            return []
        return hits_at(self._items_on(y), x, y)

    def caret(self, node, index):
        """Returns the rectangle of the caret at an index of a shown text."""
        return self._texts.caret(node, index)

    def index_at(self, node, x, y):
        """Returns the index of a shown text that is nearest to a cell."""
        return self._texts.index_at(node, x, y)

    def selection(self, first, last):
        """Returns the list of the rectangles of what is selected between two ends."""
        return self._texts.selection(first, last)

    def selected_text(self, first, last):
        """Returns the string of what is selected between two ends."""
        return self._texts.selected_text(first, last)

    def _items_on(self, y):
        """Returns the painted items that cover cells of a row, which many cells may be asked for."""
        if y not in self._crossing:
            self._crossing[y] = [item for item in self._painted if item[1][1] <= y < item[1][1] + item[1][3]]
        return self._crossing[y]

    def _renew_layout(self, page, styles):
        """Lays out the needed tasks that are not kept from the last refresh."""
        nodes = shown(page, styles)
        values = layout_values(page, styles, nodes)
        if self._layout is None:
            layout = Layout(page, styles, nodes, kept={}, known={})
        else:
            layout = self._layout.followed_by(page, styles, nodes, same_values(values, self._values))
        layout.outcome(root_task(page, styles))
        self._layout = layout
        self._values = values

    def _styled(self):
        """Returns the list of the nodes that have been marked since the last refresh."""
        if self._moment is None:
            return self._page.nodes()
        return self._page.marked_since(self._moment)

    def _damage(self, window, painted):
        """Returns the region of the cells that may have another color than at the last refresh."""
        if self._moment is None or window != self._window:
            return region([window])
        return region([intersect(item[1], window) for item in changed_items(self._painted, painted)])

    def _repaint(self, window, painted, damaged):
        """Keeps the painted items and renews the colors of the cells within a rectangle."""
        if window != self._window:
            self._rows = [[0] * window[2] for _ in range(window[3])]
        self._window = window
        self._painted = painted
        self._crossing = {}
        x, y, w, _ = damaged
        for number, row in enumerate(paint(painted, damaged)):
            self._rows[y + number][x:x + w] = row
