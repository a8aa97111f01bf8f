"""The errors of the arguments of edits other than ids (points 25 and 43)."""

from quirekiln.errors import BadPlace, BadValue, BadWord
from quirekiln.kinds import is_string, is_within, is_word
from quirekiln.properties import is_allowed, is_property
from quirekiln.selectors import parse_selector

MOST_CHARACTERS = 500
MOST_MARKS = 8
MOST_RULES = 30


def check_number(name, value, high):
    """Raises BadValue(name) unless the value is a number from 0 to high."""
    if not is_within(value, 0, high):
        raise BadValue(name)


def check_index(index, high):
    """Raises BadPlace(index) unless the index is a number from 0 to high."""
    if not is_within(index, 0, high):
        raise BadPlace(index)


def check_word(word):
    """Raises BadWord(word) unless it is a word."""
    if not is_word(word):
        raise BadWord(word)


def check_string(string):
    """Raises BadValue("string") unless a text may have this string."""
    if not is_string(string) or len(string) > MOST_CHARACTERS:
        raise BadValue("string")


def check_property(name):
    """Raises BadWord(name) unless it is a property."""
    if not is_property(name):
        raise BadWord(name)


def check_value(name, value):
    """Raises BadWord(name) unless it is a property, BadValue(name) unless it may have the value."""
    check_property(name)
    if not is_allowed(name, value):
        raise BadValue(name)


def read_marks(marks):
    """Returns the tuple of the marks in ascending order; raises BadWord or BadValue("marks")."""
    if not isinstance(marks, (list, tuple)):
        raise BadValue("marks")
    for mark in marks:
        check_word(mark)
    distinct = sorted(set(marks))
    if len(distinct) > MOST_MARKS:
        raise BadValue("marks")
    return tuple(distinct)


def read_rules(rules):
    """Returns the rules as a tuple of pairs (selector, pairs of a property and its value)."""
    if not isinstance(rules, (list, tuple)) or len(rules) > MOST_RULES:
        raise BadValue("rules")
    return tuple([_read_rule(rule) for rule in rules])


def sorted_pairs(given):
    """Returns the properties of a dict with their values, in ascending order of the properties."""
    return tuple(sorted(given.items()))


def _read_rule(rule):
    if not isinstance(rule, (list, tuple)) or len(rule) != 2:
        raise BadValue("rules")
    selector, given = rule
    parse_selector(selector)
    if not isinstance(given, dict):
        raise BadValue("rules")
    # By their strings, so that a name of another kind can be sorted and reported, too.
    for name in sorted(given, key=str):
        check_value(name, given[name])
    return (selector, sorted_pairs(given))
