"""Questions about any values: whether they are integers, ratios, lists, players, groups or weights of groups."""

from leastcomplaint.ratios import common_divisor


def plain_integer(value):
    """Whether a value is an integer; True and False are none here."""
    return isinstance(value, int) and not isinstance(value, bool)


def integer_list(value):
    """Whether a value is a list, or a tuple, of integers."""
    return isinstance(value, (list, tuple)) and all([plain_integer(item) for item in value])


def is_ratio(value):
    """Whether a value is a ratio."""
    if not isinstance(value, tuple) or len(value) != 2 or not integer_list(value):
        return False
    return value[1] >= 1 and common_divisor(value[0], value[1]) == 1


def ratio_list(value):
    """Whether a value is a list, or a tuple, of ratios."""
    return isinstance(value, (list, tuple)) and all([is_ratio(item) for item in value])


def is_player(players, value):
    """Whether a value is one of so many players."""
    return plain_integer(value) and 0 <= value < players


def is_group(players, value):
    """Whether a value is a group of so many players."""
    if not isinstance(value, tuple) or len(value) == 0:
        return False
    if not all([is_player(players, member) for member in value]):
        return False
    return all([value[k - 1] < value[k] for k in range(1, len(value))])


def are_weights(players, value):
    """Whether a value is a dict with groups of so many players as keys and integers of at least 1 as values."""
    if not isinstance(value, dict):
        return False
    return all([is_group(players, group) and plain_integer(weight) and weight >= 1 for group, weight in value.items()])
