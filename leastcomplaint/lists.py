"""Games as the least of a few price lists, or groups for which that is impossible."""

from leastcomplaint.calm import calm_division, family_against
from leastcomplaint.checks import ratio_list
from leastcomplaint.covers import cover
from leastcomplaint.divisions import amount_of, are_amounts
from leastcomplaint.errors import BadAmounts
from leastcomplaint.games import Game, groups, part
from leastcomplaint.ratios import added, least_ratio, together


def price_list(game, group):
    """A price list by which a group costs its worth, and no group less than its worth; or None."""
    division = calm_division(part(game, group))
    if division is None:
        return None
    worths = list(game.worths().values())
    # Where a player from outside comes in, the price grows by more than any worths differ.
    dear = (max([0, *worths]) - min([0, *worths]), 1)
    prices = [dear] * game.players
    for member, one in zip(group, division):
        prices[member] = one
    return prices


def price_lists(game):
    """A price list for each group that together make the game, or None."""
    found = [price_list(game, group) for group in game]
    return None if None in found else found


def group_without(game):
    """A group whose part has no calm division, and a family that bars this part, as a tuple; or None."""
    for group in game:
        family = family_against(part(game, group))
        if family is not None:
            return (group, family)
    return None


def least_price(lists, group):
    """The least price that some price lists have for a group."""
    return least_ratio([amount_of(prices, group) for prices in lists])


def shows_lists(game, lists):
    """Whether some price lists make a game."""
    if not all([ratio_list(prices) and len(prices) == game.players for prices in lists]):
        raise BadAmounts()
    return len(lists) > 0 and all([least_price(lists, group) == (game[group], 1) for group in game])


def are_price_lists(value):
    """Whether a value is a list of one or more lists of one to five ratios, all of the same length."""
    if not isinstance(value, (list, tuple)) or len(value) == 0:
        return False
    return all([are_amounts(prices) and len(prices) == len(value[0]) for prices in value])


def made_by(lists):
    """The game that price lists make, times the least integer that makes all worths integers."""
    if not are_price_lists(lists):
        raise BadAmounts()
    players = len(lists[0])
    unit, worths = together([least_price(lists, group) for group in groups(players)])
    return Game(players, dict(zip(groups(players), worths)))


def closed(game):
    """The dict of the greatest sums that each group earns by families of its members alone."""
    found = {}
    for group in game:
        alone = part(game, group)
        # The group itself is among these groups: so there always are least amounts.
        amounts, family = cover(alone, list(alone))
        found[group] = added(amounts)
    return found
