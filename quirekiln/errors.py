"""The errors that the calls of the program raise (point 6)."""


class PageError(ValueError):
    """Any error of the program. The point that states an error says what its value is."""

    def __init__(self, value):
        ValueError.__init__(self, str(value))
        self.value = value


class NoNode(PageError):
    """No node of the page has this id."""


class WrongKind(PageError):
    """The node with this id has the wrong kind."""


class BadWord(PageError):
    """This is not a word, or not a property."""


class BadValue(PageError):
    """The parameter or property with this name was given a value that is not allowed."""


class BadPlace(PageError):
    """Nothing can stand at this index or in this parent."""


class TooDeep(PageError):
    """The page would have this depth."""


class TooMany(PageError):
    """The page would have this many nodes."""


class BadSelector(PageError):
    """This is not a selector."""
