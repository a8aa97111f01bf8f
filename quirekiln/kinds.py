"""What a number, a word and a string are (points 3 and 4)."""

LONGEST_WORD = 12

# The number of the percent sign, which no string may contain.
PERCENT = 37


def is_number(value):
    """Returns True if the value is a number, otherwise False. True and False are none."""
    return isinstance(value, int) and not isinstance(value, bool)


def is_within(value, low, high):
    """Returns True if the value is a number from low to high, otherwise False."""
    return is_number(value) and low <= value <= high


def is_word(value):
    """Returns True if the value is a word, otherwise False."""
    if not isinstance(value, str) or not 1 <= len(value) <= LONGEST_WORD:
        return False
    return all(["a" <= char <= "z" for char in value])


def is_string(value):
    """Returns True if the value is a string in which newlines are allowed, otherwise False."""
    return isinstance(value, str) and all([_is_allowed(char) for char in value])


def _is_allowed(char):
    return char == "\n" or (" " <= char <= "~" and ord(char) != PERCENT)
