"""The settings of the shown texts and the places of their ink (points 111 and 121)."""

from quirekiln.plates import shift
from quirekiln.setting import Setting


def set_texts(page, styles, rects, known):
    """Returns a dict from each shown text to the pair of its setting and the ink of it.

    What is known of texts from before is taken over where it is still right.
    """
    found = {}
    for node in rects:
        if page.kind(node) == "text":
            style = styles[node]
            wanted = (page.text(node), style["size"], style["lead"], rects[node][2], style["align"])
            if node in known and _made_of(known[node][0]) == wanted:
                found[node] = known[node]
            else:
                found[node] = _new_pair(wanted)
    return found


def ink_rect(rect, size, ink):
    """Returns the rectangle of an ink of a text with this rectangle and size."""
    x, y, w = ink[2:]
    return shift((x, y, w, size), rect[0], rect[1])


def _new_pair(values):
    string, size, lead, width, align = values
    setting = Setting(string, size=size, lead=lead, width=width, align=align)
    return (setting, setting.ink())


def _made_of(setting):
    return (setting.string, setting.size, setting.lead, setting.width, setting.align)
