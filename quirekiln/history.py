"""A dict that is written in steps, which can be undone and redone (point 26)."""


class History:
    """Cells by their keys. None as the value of a cell in a step says that there is no such cell.

    The values are never changed, only replaced: so a step keeps nothing but the cells that it
    wrote, and the same values may stand in several places. Each step has a note, which is not
    None, for the caller to know the step by when it is undone or redone.
    """

    def __init__(self, cells):
        self.cells = cells
        self._done = []
        self._undone = []

    def write(self, after, note):
        """Does a step that gives these cells these values."""
        before = {key: self.cells.get(key) for key in after}
        self._done.append((before, after, note))
        self._undone = []
        self._put(after)

    def undo(self):
        """Reverts the last step and returns its note; returns None if there is none."""
        if not self._done:
            return None
        before, after, note = self._done.pop()
        self._undone.append((before, after, note))
        self._put(before)
        return note

    def redo(self):
        """Repeats the step that was reverted last and returns its note; returns None if there is none."""
        if not self._undone:
            return None
        before, after, note = self._undone.pop()
        self._done.append((before, after, note))
        self._put(after)
        return note

    def _put(self, changes):
        for key in changes:
            if changes[key] is not None:
                self.cells[key] = changes[key]
            elif key in self.cells:
                del self.cells[key]
