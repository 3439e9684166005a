"""Corners of the calm divisions: all calm divisions are means of them."""

from leastcomplaint.bounds import other_groups
from leastcomplaint.covers import member_line
from leastcomplaint.divisions import complaints, is_calm, is_calm_division, is_division
from leastcomplaint.equations import rank, solution
from leastcomplaint.errors import NotDivision, TooMany
from leastcomplaint.programs import least
from leastcomplaint.ratios import lowest, scaled, together

MOST_FOR_CORNERS = 4


def tight_groups(game, division):
    """The ascending list of the groups other than the whole that get just their worths."""
    told = complaints(game, division)
    return [group for group in other_groups(game) if told[group] == (0, 1)]


def is_corner(game, division):
    """Whether a division is calm and not the mean of two other calm divisions."""
    # A way along which no tight group gets more or less can be gone a little in both directions.
    fixed = [*tight_groups(game, division), game.whole]
    return is_calm(game, division) and rank([member_line(game, group) for group in fixed]) == game.players


def choices(things, many):
    """The list of all lists of so many things of a list, in its order."""
    if many == 0:
        return [[]]
    found = []
    for at, thing in enumerate(things):
        found += [[thing, *rest] for rest in choices(things[at + 1:], many - 1)]
    return found


def in_order(divisions):
    """Lists of ratios in ascending order, compared like words by the size of the ratios."""
    unit = together([one for amounts in divisions for one in amounts])[0]
    return sorted(divisions, key=lambda division: scaled(division, unit))


def corners(game):
    """The ascending list of all corners of a game with at most four players."""
    if game.players > MOST_FOR_CORNERS:
        raise TooMany(game.players)
    found = []
    for tight in choices(other_groups(game), game.players - 1):
        division = solution([[*member_line(game, group), game[group]] for group in [*tight, game.whole]])
        if division not in found and is_calm_division(game, division):
            found.append(division)
    return in_order(found)


def corner_shares(game, division):
    """A share for each corner so that the corners, blended by these shares, are a division; or None."""
    if not is_division(game, division):
        raise NotDivision()
    ends = corners(game)
    if not is_calm(game, division):
        return None
    unit = together([one for amounts in [*ends, division] for one in amounts])[0]
    rows = [scaled(column, unit) for column in zip(*ends)]
    answer = least([*rows, [1] * len(ends)], [*scaled(division, unit), 1], [0] * len(ends))
    kind, scale, shares, prices = answer
    return lowest(shares)
