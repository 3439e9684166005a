"""Orders of joining: what players add who come one after another, and the mean over all orders."""

from leastcomplaint.checks import is_group, plain_integer
from leastcomplaint.errors import BadOrder, BadWorths
from leastcomplaint.games import Game, groups, is_order
from leastcomplaint.ratios import added, ratio


def joined(game, order):
    """The division in which each player gets what they add to those who had come before."""
    if not is_order(game, order):
        raise BadOrder()
    amounts = {}
    before = 0
    for count, player in enumerate(order):
        worth = game[tuple(sorted(order[:count + 1]))]
        amounts[player] = (worth - before, 1)
        before = worth
    return [amounts[player] for player in game.whole]


def lies_in(group, other):
    """Whether all members of a group are in another one."""
    return all([member in other for member in group])


def is_bad(game, one, other):
    """Whether two groups earn more than the group of all their members and that of those who are in both."""
    # If one of them contains the other one, these are just the two groups: then they are not bad.
    either = tuple([player for player in game.whole if player in one or player in other])
    both = tuple([player for player in one if player in other])
    return game[one] + game[other] > game[either] + (game[both] if both else 0)


def bad_pair(game):
    """The first pair of bad groups in the order of tuples, or None."""
    for one in game:
        for other in game:
            if one < other and is_bad(game, one, other):
                return (one, other)
    return None


def order_against(game):
    """An order whose division is not calm, or None."""
    pair = bad_pair(game)
    if pair is None:
        return None
    one, other = pair
    # The other group, whose first members came with the first group, gets less than its worth.
    places = [(player not in one, player not in other, player) for player in game.whole]
    return [player for out, rest, player in sorted(places)]


def is_orderly(game):
    """Whether the divisions of all orders are calm."""
    return bad_pair(game) is None


def dividends(game):
    """The dict of the integers of which each worth is the sum over the groups that lie in the group."""
    found = {}
    for group in sorted(game, key=len):
        found[group] = game[group] - sum([found[other] for other in found if lies_in(other, group)])
    return {group: found[group] for group in game}


def are_dividends(players, value):
    """Whether a value is a dict with groups of so many players as keys and integers as values."""
    if not isinstance(value, dict):
        return False
    return all([is_group(players, group) and plain_integer(dividend) for group, dividend in value.items()])


def from_dividends(players, dividends):
    """The game in which each worth is the sum of the dividends of the groups that lie in the group."""
    order = groups(players)
    if not are_dividends(players, dividends):
        raise BadWorths()
    worths = {}
    for group in order:
        worths[group] = sum([dividend for other, dividend in dividends.items() if lies_in(other, group)])
    return Game(players, worths)


def average(game):
    """The mean of the divisions of all orders."""
    told = dividends(game)
    return [added([ratio(told[group], len(group)) for group in game if player in group]) for player in game.whole]
