"""Games compared for every division: with evidence, or with a division that one of them refuses."""

from leastcomplaint.bounds import earns_floor, floor_weights, is_paper, least_for, tight
from leastcomplaint.calm import family_against, is_family, lack
from leastcomplaint.divisions import is_calm_division
from leastcomplaint.errors import Mismatch


def division_between(one, other):
    """A division that is calm in one game and not a calm division of the other one, or None."""
    if one.players != other.players:
        raise Mismatch()
    # If any calm division gives a group too little for the other game, one that gives it least does.
    for group in one:
        division = least_for(one, group)
        if division is not None and not is_calm_division(other, division):
            return division
    return None


def implies(one, other):
    """Whether every calm division of one game is a calm division of the other one, too."""
    return division_between(one, other) is None


def multipliers(one, other):
    """The evidence that one game implies the other one, or None if it does not."""
    if not implies(one, other):
        return None
    family = family_against(one)
    if family is not None:
        return family
    return {group: floor_weights(one, group) for group in one}


def shows_floors(one, other, paper):
    """Whether a value is a dict with a key for each group that shows that the group gets its worth in another game."""
    if not isinstance(paper, dict) or len(paper) != len(one):
        return False
    if not all([group in one and is_paper(one, told) for group, told in paper.items()]):
        return False
    return all([earns_floor(one, group, (other[group], 1), paper[group]) for group in one])


def shows_implied(one, other, paper):
    """Whether a value is evidence that one game implies the other one."""
    if one.players != other.players:
        raise Mismatch()
    if is_family(one, paper):
        return lack(one, paper)[0] > 0
    return one[one.whole] == other[other.whole] and shows_floors(one, other, paper)


def same_divisions(one, other):
    """Whether two games have the same calm divisions."""
    return implies(one, other) and implies(other, one)


def groups_same(games):
    """The indices of some games, parted into lists of those with the same calm divisions."""
    if any([game.players != games[0].players for game in games]):
        raise Mismatch()
    # Games have the same calm divisions if these give each group the same least amount.
    parts = []
    for index, game in enumerate(games):
        amounts = tight(game)
        found = [indices for other, indices in parts if other == amounts]
        if found:
            found[0].append(index)
        else:
            parts.append((amounts, [index]))
    return [indices for told, indices in parts]
