"""Calm divisions, or families of groups that bar them."""

from leastcomplaint.checks import are_weights
from leastcomplaint.covers import cover, member_line
from leastcomplaint.divisions import chosen_groups, is_division
from leastcomplaint.equations import are_independent
from leastcomplaint.errors import NotFamily
from leastcomplaint.ratios import least_ratio, minus, ratio, times


def settled(game, chosen):
    """A division that is calm for some groups and None, or None and a family of these groups that bars the game."""
    # The whole never goes. With it, there always are least amounts, and their sum is never below its worth.
    amounts, family = cover(game, [group for group in game if group in chosen or group == game.whole])
    if is_division(game, amounts):
        return (amounts, None)
    # Here the family does without the whole: the whole lacks nothing, the other groups alone lack more.
    return (None, family)


def calm_division(game, *, only=None):
    """A division in which none of some groups goes, or None if there is none."""
    return settled(game, chosen_groups(game, only))[0]


def family_against(game, *, only=None):
    """A family of some groups that bars the game, or None if there is none."""
    return settled(game, chosen_groups(game, only))[1]


def count_for(family, player):
    """The sum of the weights of the groups with a player."""
    return sum([weight for group, weight in family.items() if player in group])


def is_family(game, value):
    """Whether a value is a family for a game."""
    if not are_weights(game.players, value):
        return False
    count = count_for(value, 0)
    return count >= 1 and all([count_for(value, player) == count for player in game.whole])


def count_of(game, family):
    """The count of a family: the sum of the weights of the groups with any one player."""
    if not is_family(game, family):
        raise NotFamily()
    return count_for(family, 0)


def lack(game, family):
    """How much more than the whole the groups of a family earn, for a count of 1."""
    count = count_of(game, family)
    earned = sum([weight * game[group] for group, weight in family.items()])
    return minus(ratio(earned, count), (game[game.whole], 1))


def is_simple(game, family):
    """Whether all families of groups of a family have weights that are proportional to its own."""
    if not is_family(game, family):
        raise NotFamily()
    # If the groups depend on one another, weights can be moved between them until one of them is left out.
    return are_independent([member_line(game, group) for group in family])


def without(rest, share, family):
    """Weights from which those of a family were taken as often as a share tells; groups without weight are left out."""
    left = {group: minus(rest[group], times(share, (family.get(group, 0), 1))) for group in rest}
    return {group: weight for group, weight in left.items() if weight[0] != 0}


def simple_parts(game, family):
    """A list of shares and simple families that together are a family."""
    if not is_family(game, family):
        raise NotFamily()
    rest = {group: (family[group], 1) for group in sorted(family)}
    parts = []
    while rest:
        simple = cover(game, list(rest))[1]
        # So much of it that one group at least is used up: therefore there are no more parts than groups.
        share = least_ratio([times(rest[group], (1, weight)) for group, weight in simple.items()])
        parts.append((share, simple))
        rest = without(rest, share, simple)
    return parts


def ladder(game):
    """For each k from 1 on a division that is calm for the groups of at most k members, or a family against it."""
    return [settled(game, [group for group in game if len(group) <= most]) for most in range(1, game.players + 1)]


def calm_to(game):
    """The greatest k for which some division is calm for all groups of at most k members."""
    # What is calm for greater groups, too, is calm for the lesser ones: the divisions stand at the beginning.
    return len([division for division, family in ladder(game) if division is not None])


def clash(game, *, only=None):
    """Groups that cannot all be kept from going, while they can without any one of them; or None."""
    kept = chosen_groups(game, only)
    if settled(game, kept)[0] is not None:
        return None
    for group in sorted(kept, reverse=True):
        fewer = [other for other in kept if other != group]
        if settled(game, fewer)[0] is None:
            kept = fewer
    return kept
