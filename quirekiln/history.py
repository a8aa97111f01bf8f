"""A dict that is written in steps, which can be undone and redone (point 26)."""


class History:
    """Cells by their keys. None as the value of a cell in a step says that there is no such cell.

    The values are never changed, only replaced: so a step keeps nothing but the cells that it
    wrote, and the same values may stand in several places.
    """

    def __init__(self, cells):
        self.cells = cells
        self._done = []
        self._undone = []

    def write(self, after):
        """Does a step that gives these cells these values."""
        before = {key: self.cells.get(key) for key in after}
        self._done.append((before, after))
        self._undone = []
        self._put(after)

    def undo(self):
        """Reverts the last step; returns False if there is none, otherwise True."""
        if not self._done:
            return False
        step = self._done.pop()
        self._undone.append(step)
        self._put(step[0])
        return True

    def redo(self):
        """Repeats the step that was reverted last; returns False if there is none."""
        if not self._undone:
            return False
        step = self._undone.pop()
        self._done.append(step)
        self._put(step[1])
        return True

    def _put(self, changes):
        for key in changes:
            if changes[key] is not None:
                self.cells[key] = changes[key]
            elif key in self.cells:
                del self.cells[key]
