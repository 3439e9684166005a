"""Divisions of what the whole earns, and the complaints of groups about them."""

from leastcomplaint.checks import integer_list, is_group, ratio_list
from leastcomplaint.errors import BadShares, Mismatch, NoGroup, NotDivision
from leastcomplaint.games import MOST_PLAYERS
from leastcomplaint.ratios import added, compare, minus, ratio, together


def chosen_groups(game, only):
    """The different groups of a list in ascending order, or all groups of a game if there is no list."""
    if only is None:
        return list(game)
    for value in only:
        if value not in game:
            raise NoGroup(value)
    return [group for group in game if group in only]


def are_amounts(value):
    """Whether a value is a list of one to five ratios."""
    return ratio_list(value) and 1 <= len(value) <= MOST_PLAYERS


def amount_of(division, group):
    """The sum of the ratios of the members of a group."""
    return added([division[member] for member in group])


def amount(division, group):
    """The sum of the ratios of the members of a group in a list of one to five ratios."""
    if not are_amounts(division):
        raise NotDivision()
    if not is_group(len(division), group):
        raise NoGroup(group)
    return amount_of(division, group)


def is_division(game, value):
    """Whether a value is a division of a game."""
    if not ratio_list(value) or len(value) != game.players:
        return False
    return added(value) == (game[game.whole], 1)


def complaint_of(game, division, group):
    """The worth of a group minus its amount."""
    return minus((game[group], 1), amount_of(division, group))


def complaint(game, division, group):
    """The complaint of a group about a division."""
    if not is_division(game, division):
        raise NotDivision()
    if group not in game:
        raise NoGroup(group)
    return complaint_of(game, division, group)


def complaints(game, division):
    """The dict of the complaints of all groups."""
    if not is_division(game, division):
        raise NotDivision()
    return {group: complaint_of(game, division, group) for group in game}


def complaint_list(game, division):
    """The complaints of all groups other than the whole, the greatest one first."""
    told = complaints(game, division)
    unit, tops = together([told[group] for group in game if group != game.whole])
    return [ratio(top, unit) for top in sorted(tops, reverse=True)]


def going(game, division):
    """The ascending list of the groups that get less than they could earn by themselves."""
    told = complaints(game, division)
    return [group for group in game if told[group][0] > 0]


def is_calm(game, division, *, only=None):
    """Whether none of the groups goes, or none of those in a list."""
    told = complaints(game, division)
    return not any([told[group][0] > 0 for group in chosen_groups(game, only)])


def is_calm_division(game, value):
    """Whether a value is a calm division of a game."""
    return is_division(game, value) and is_calm(game, value)


def list_order(one, other):
    """1 if the first list of ratios is greater, compared like words, -1 if it is less, 0 if both are the same."""
    for left, right in zip(one, other):
        order = compare(left, right)
        if order != 0:
            return order
    return compare((len(one), 1), (len(other), 1))


def even_division(game):
    """The division that gives the same to each player."""
    return [ratio(game[game.whole], game.players) for player in game.whole]


def are_shares(value):
    """Whether a value is a list of integers of at least 0 that are not all 0."""
    if not integer_list(value) or not any([share > 0 for share in value]):
        return False
    return all([share >= 0 for share in value])


def mean(ratios, shares):
    """The mean of some ratios, each of them counted as often as its share tells."""
    unit, tops = together(ratios)
    return ratio(sum([share * top for share, top in zip(shares, tops)]), unit * sum(shares))


def blended(divisions, shares):
    """The mean of some lists of ratios, each of them counted as often as its share tells."""
    if not are_shares(shares) or len(shares) != len(divisions):
        raise BadShares()
    if not all([are_amounts(division) for division in divisions]):
        raise NotDivision()
    players = len(divisions[0])
    if any([len(division) != players for division in divisions]):
        raise Mismatch()
    return [mean([division[player] for division in divisions], shares) for player in range(players)]
