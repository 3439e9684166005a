"""How much must be added so that no group goes, and how much groups get in calm divisions."""

from leastcomplaint.checks import are_weights, plain_integer
from leastcomplaint.covers import cover, member_rows, weighed
from leastcomplaint.divisions import amount_of, chosen_groups
from leastcomplaint.errors import NoGroup
from leastcomplaint.programs import least
from leastcomplaint.ratios import added, lowest, minus, ratio


def other_groups(game, only=None):
    """The different groups of a list, or all groups, in ascending order, apart from the whole."""
    return [group for group in chosen_groups(game, only) if group != game.whole]


def needed(game, *, only=None):
    """The least ratio that must be added to the worth of the whole so that no other group goes, or None."""
    found = cover(game, other_groups(game, only))
    return None if found is None else minus(added(found[0]), (game[game.whole], 1))


def lowest_amounts(game, *, only=None):
    """Amounts of the least sum in which no group other than the whole gets less than its worth, or None."""
    found = cover(game, other_groups(game, only))
    return None if found is None else found[0]


def need_family(game, *, only=None):
    """A family that shows that no amounts with a lesser sum will do, or None."""
    found = cover(game, other_groups(game, only))
    return None if found is None else found[1]


def floor_answer(game, group):
    """What least tells of the evidence that no calm division gives a group less; None if there is no calm division."""
    if group not in game:
        raise NoGroup(group)
    # What stands with the whole may be below 0: so there is a column for the whole, and one for its opposite.
    columns = other_groups(game) + [game.whole]
    rows = [row + [-1] for row in member_rows(game, columns)]
    totals = [1 if player in group else 0 for player in game.whole]
    answer = least(rows, totals, [-game[other] for other in columns] + [game[game.whole]])
    # There always is some evidence for some amount: if there is no calm division, there is for every amount.
    return None if answer[0] == "endless" else answer


def floor_weights(game, group):
    """The evidence that no calm division gives a group less than its least amount, or None."""
    answer = floor_answer(game, group)
    if answer is None:
        return None
    kind, unit, amounts, prices = answer
    scale, whole, *weights = lowest([unit, amounts[-2] - amounts[-1]] + amounts[:-2])
    return (scale, weighed(other_groups(game), weights), whole)


def is_paper(game, told):
    """Whether a value is a tuple of a scale of at least 1, a dict of weights of groups, and an integer."""
    if not isinstance(told, tuple) or len(told) != 3:
        return False
    scale, weights, rest = told
    return plain_integer(scale) and scale >= 1 and plain_integer(rest) and are_weights(game.players, weights)


def earns_floor(game, group, value, told):
    """Whether weights count the players of a group only, and earn a value for them in each calm division."""
    scale, weights, rest = told
    for player in game.whole:
        total = rest + sum([weight for other, weight in weights.items() if player in other])
        if total != (scale if player in group else 0):
            return False
    earned = rest * game[game.whole] + sum([weight * game[other] for other, weight in weights.items()])
    return earned * value[1] >= scale * value[0]


def shows_floor(game, group, value, told):
    """Whether such evidence shows that no calm division gives a group less than a ratio."""
    if group not in game:
        raise NoGroup(group)
    return is_paper(game, told) and game.whole not in told[1] and earns_floor(game, group, value, told)


def least_for(game, group):
    """A calm division in which a group has its least amount, or None."""
    answer = floor_answer(game, group)
    if answer is None:
        return None
    kind, unit, amounts, prices = answer
    return [ratio(-price, unit) for price in prices]


def greatest_for(game, group):
    """A calm division in which a group has its greatest amount, or None."""
    if group not in game:
        raise NoGroup(group)
    others = tuple([player for player in game.whole if player not in group])
    # The group gets most where all others get least; the whole always gets the same.
    return least_for(game, others if others else game.whole)


def amount_in(division, group):
    """The amount of a group in a division, or None if there is no division."""
    return None if division is None else amount_of(division, group)


def least_amount(game, group):
    """The least amount of a group in a calm division, or None."""
    return amount_in(least_for(game, group), group)


def greatest_amount(game, group):
    """The greatest amount of a group in a calm division, or None."""
    return amount_in(greatest_for(game, group), group)


def tight(game):
    """The dict of the least amounts of all groups in calm divisions, or None if there is no calm division."""
    found = {group: least_amount(game, group) for group in game}
    return None if found[game.whole] is None else found


def is_tight(game):
    """Whether there is a calm division, and each group gets just its worth in one."""
    return tight(game) == {group: (game[group], 1) for group in game}
