"""Questions about any values: whether they are integers, lists, players or groups."""


def plain_integer(value):
    """Whether a value is an integer; True and False are none here."""
    return isinstance(value, int) and not isinstance(value, bool)


def integer_list(value):
    """Whether a value is a list, or a tuple, of integers."""
    return isinstance(value, (list, tuple)) and all([plain_integer(item) for item in value])


def is_player(players, value):
    """Whether a value is one of so many players."""
    return plain_integer(value) and 0 <= value < players


def is_group(players, value):
    """Whether a value is a group of so many players."""
    if not isinstance(value, tuple) or len(value) == 0:
        return False
    if not all([is_player(players, member) for member in value]):
        return False
    return all([value[k - 1] < value[k] for k in range(1, len(value))])
