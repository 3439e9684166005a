"""The least amounts in which none of some groups goes, and the families that show that no less will do."""

from leastcomplaint.programs import least
from leastcomplaint.ratios import lowest, ratio


def member_line(game, group):
    """A list that has 1 for each player of a group, and 0 for the other ones."""
    return [1 if player in group else 0 for player in game.whole]


def member_rows(game, columns):
    """For each player a list that has 1 for each group with this player, and 0 for the other ones."""
    return [[1 if player in group else 0 for group in columns] for player in game.whole]


def weighed(columns, weights):
    """The dict of the groups whose weights are not 0."""
    return {group: weight for group, weight in zip(columns, weights) if weight != 0}


def cover(game, chosen):
    """Amounts of the least sum in which none of some groups goes, and a family of these groups, as a tuple.

    The sum of the weights times the worths of the family is its count times the sum of the amounts. The family is
    simple, and its weights have no common divisor. If no family has only these groups, there is no least sum, and
    None is returned. The groups are in ascending order.
    """
    # There are no programs without columns.
    if len(chosen) == 0:
        return None
    answer = least(member_rows(game, chosen), [1] * game.players, [-game[group] for group in chosen])
    if answer[0] == "none":
        return None
    # The columns that least has in use never depend on one another: therefore the family is simple.
    kind, unit, weights, prices = answer
    return ([ratio(-price, unit) for price in prices], weighed(chosen, lowest(weights)))
