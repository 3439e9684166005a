"""What the tests reckon by themselves, with fractions and by trying everything, not with the functions of the package."""

import functools
import itertools
import random
import time
from fractions import Fraction

from leastcomplaint.games import Game

LONG = 10 ** 29 + 7

# Values that are no groups of three players.
NO_GROUPS_OF_THREE = [
    (), (3,), (0, 3), (-1,), (-1, 0), (1, 0), (0, 0), (0, 1, 1), (0, 2, 1), (0, 1, 2, 3), (10 ** 29,),
    (True,), (False,), (False, 1), (0, True), (0, True, 2), (0.0,), (0, 1.0), ("0",), (None,), ((0,),),
    ([0],), (0, [1]), ({},), [0], [0, 1], [], {}, 0, 1, True, None, "", "0", "01",
]

# Values that are no divisions of a game of three players in which the whole earns 5.
NO_DIVISIONS_OF_FIVE = [
    None, 5, "abc", "", {}, {0: (5, 1), 1: (0, 1), 2: (0, 1)}, (), [], (5, 1), [(5, 1)], [(5, 1), (0, 1)],
    [(5, 1), (0, 1), (0, 1), (0, 1)], [(5, 1), (1, 1), (0, 1)], [(5, 1), (1, LONG), (0, 1)], [5, 0, 0],
    [[5, 1], [0, 1], [0, 1]], [(5, 1), (0, 2), (0, 1)], [(5, 1), (0, 1), (0, -1)], [(10, 2), (0, 1), (0, 1)],
    [(-5, -1), (0, 1), (0, 1)], [(5, 1), (1, 0), (-1, 0)], [(5, 1), (False, 1), (0, 1)], [(5, 1), (0, True), (0, 1)],
    [(5, 1), (0, 1, 1), (0, 1)], [(5, 1), (0,), (0, 1)], [(5, 1), (), (0, 1)], [(5.0, 1), (0, 1), (0, 1)],
    [("5", 1), (0, 1), (0, 1)], [(5, 1), None, (0, 1)], [(5, 1), (0, 1), "01"],
]


def fraction(one):
    return Fraction(one[0], one[1])


def as_ratio(number):
    return Fraction(number).as_integer_ratio()


def all_groups(players):
    """The groups, made in another way than the program does."""
    found = []
    for many in range(1, players + 1):
        found += itertools.combinations(range(players), many)
    return sorted(found)


def game_of(players, *worths):
    return Game(players, dict(zip(all_groups(players), worths, strict=True)))


def some_games(players, many, most, seed=1):
    """Games with worths from -most to most; in some of them the whole earns so much that calm divisions are likely."""
    source = random.Random(seed * 100 + players)
    games = []
    for k in range(many):
        worths = {group: source.randint(-most, most) for group in all_groups(players)}
        if k % 2:
            worths[tuple(range(players))] = source.randint(0, 2 * most)
        if k % 4 == 3:
            worths = {group: len(group) ** 2 * 3 + worths[group] // 3 for group in worths}
        games.append(Game(players, worths))
    return games


def total(amounts, group):
    """The sum of the ratios of the members of a group, a fraction."""
    return sum((fraction(amounts[k]) for k in group), Fraction(0))


def solved(rows, totals):
    """The only solution of linear equations, or None if there is none, or more than one."""
    lines = [[Fraction(number) for number in [*row, end]] for row, end in zip(rows, totals)]
    many = len(rows[0])
    for column in range(many):
        at = next((k for k in range(column, len(lines)) if lines[k][column] != 0), None)
        if at is None:
            return None
        lines[column], lines[at] = lines[at], lines[column]
        lines[column] = [number / lines[column][column] for number in lines[column]]
        for k, line in enumerate(lines):
            if k != column and line[column] != 0:
                lines[k] = [number - line[column] * own for number, own in zip(line, lines[column])]
    if any(line[-1] != 0 for line in lines[many:]):
        return None
    return [line[-1] for line in lines[:many]]


def simple_families(players, groups):
    """All simple families of some groups, as dicts of fractions, with the count 1; by trying all sets of groups."""
    found = []
    for many in range(1, players + 1):
        for some in itertools.combinations(groups, many):
            weights = solved([[int(k in group) for group in some] for k in range(players)], [1] * players)
            if weights is not None and min(weights) > 0:
                found.append(dict(zip(some, weights)))
    return found


def greatest_earned(game, families):
    """The greatest sum of weights times worths of some families with the count 1, or None if there are none."""
    return max((sum(weight * game[group] for group, weight in family.items()) for family in families), default=None)


@functools.cache
def corners_of(players, worths):
    worth = dict(zip(all_groups(players), worths, strict=True))
    whole = tuple(range(players))
    found = []
    for some in itertools.combinations([group for group in worth if group != whole], players - 1):
        chosen = [*some, whole]
        amounts = solved([[int(k in group) for k in range(players)] for group in chosen],
                         [worth[group] for group in chosen])
        if amounts is not None and all(sum(amounts[k] for k in group) >= worth[group] for group in worth):
            found.append(amounts)
    return found


def all_corners(game):
    """The corners of the calm divisions, lists of fractions, by trying all sets of groups that may be tight."""
    return [list(corner) for corner in corners_of(game.players, tuple(game[x] for x in all_groups(game.players)))]


def seconds(call, *arguments, **named):
    """How long a call takes."""
    start = time.perf_counter()
    call(*arguments, **named)
    return time.perf_counter() - start
