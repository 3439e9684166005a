"""How far the worth of one group may go while the least division of a game stays what it is."""

from leastcomplaint.divisions import amount_of
from leastcomplaint.errors import NoGroup
from leastcomplaint.least import groups_from, least_division, levels, weights_or_steps
from leastcomplaint.ratios import plus


def is_balanced(game, chosen):
    """Whether there is a family whose keys are just some groups."""
    return weights_or_steps(game, chosen)[0] is not None


def others_from(game, division, level, group):
    """The groups other than the whole and a group whose complaint is at least a ratio."""
    return [other for other in groups_from(game, division, level) if other != group]


def first_fitting(game, division, group):
    """The first level from which on a group and all others that complain so much are the keys of a family."""
    fitting = [level for level in levels(game, division)
               if is_balanced(game, [*others_from(game, division, level, group), group])]
    return fitting[0]


def steady_worths(game, group):
    """The least and the greatest worth of a group with which the least division stays; None for no least worth."""
    if group not in game:
        raise NoGroup(group)
    if group == game.whole:
        return (game[group], game[group])
    division = least_division(game)
    # A division is least as long as there is a family at each level. A greater complaint of the group than this level
    # is barred: there is no family of the group and of the others that complain so much.
    level = first_fitting(game, division, group)
    # Where the others alone have no family, the group cannot complain less either.
    if not is_balanced(game, others_from(game, division, level, group)):
        return (game[group], game[group])
    # Otherwise the amount of the group follows from those of the others: then wherever there is a family with the
    # group, there is one without it, and the group may complain as little as one likes.
    top, bottom = plus(level, amount_of(division, group))
    return (None, top // bottom)
