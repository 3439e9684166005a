"""Points 4 and 111 to 113: corners of the calm divisions."""

import copy
import itertools
import math
import random
import unittest
from fractions import Fraction

from leastcomplaint.bounds import greatest_for, least_for
from leastcomplaint.calm import calm_division
from leastcomplaint.corners import corner_shares, corners, is_corner, tight_groups
from leastcomplaint.divisions import blended, even_division
from leastcomplaint.errors import NotDivision, TooMany
from leastcomplaint.games import Game, additive, shifted
from leastcomplaint.least import least_division
from leastcomplaint.orders import from_dividends, joined
from reckoning import (
    LONG, NO_DIVISIONS_OF_FIVE, all_corners, all_groups, as_ratio, fraction, game_of, seconds, solved, some_games,
    total,
)
from samples import calm_games


def rich():
    return game_of(3, 0, 4, 7, 4, 0, 4, 0)


def poor():
    return game_of(3, 0, 4, 5, 4, 0, 4, 0)


def ratios(amounts):
    return [as_ratio(one) for one in amounts]


def is_end(game, division):
    """Whether a division is calm, and the only one that gives its tight groups what they have."""
    amounts = {group: total(division, group) for group in all_groups(game.players)}
    if any(amounts[group] < game[group] for group in amounts):
        return False
    fixed = [group for group in amounts if amounts[group] == game[group]]
    rows = [[int(k in group) for k in range(game.players)] for group in fixed]
    return solved(rows, [amounts[group] for group in fixed]) is not None


def convex_games(players, many, seed):
    """Games in which dividends are above 0: what players add in all orders are the corners of these."""
    source = random.Random(seed * 10 + players)
    return [from_dividends(players, {group: source.randint(1, 9) for group in all_groups(players)})
            for k in range(many)]


class Interface(unittest.TestCase):
    def test_first_lines(self):
        self.assertEqual(corners(rich()), [[(1, 1), (3, 1), (3, 1)], [(3, 1), (1, 1), (3, 1)], [(3, 1), (3, 1), (1, 1)]])

    def test_second_lines(self):
        game = rich()
        self.assertEqual(
            [corner_shares(game, even_division(game)), tight_groups(game, [(3, 1), (1, 1), (3, 1)]),
             is_corner(game, even_division(game))],
            [[1, 1, 1], [(0, 1), (1, 2)], False],
        )

    def test_third_lines(self):
        self.assertEqual(
            [corners(poor()), corners(Game(2, dict(zip(all_groups(2), [0, 4, 1]))))],
            [[], [[(0, 1), (4, 1)], [(3, 1), (1, 1)]]],
        )


class Tight(unittest.TestCase):
    def test_complaints_of_0(self):
        found = set()
        for players in range(1, 6):
            for game in [*calm_games(players, 8, 20, 111), *some_games(players, 6, 20, seed=111)]:
                divisions = [even_division(game), least_division(game), joined(game, list(range(players)))]
                for group in all_groups(players)[:6]:
                    divisions += [one for one in (least_for(game, group), greatest_for(game, group)) if one]
                for division in divisions:
                    told = tight_groups(game, division)
                    self.assertIs(type(told), list)
                    self.assertEqual(told, [group for group in all_groups(players) if len(group) < players
                                            and total(division, group) == game[group]])
                    self.assertEqual(tight_groups(game, tuple(division)), told)
                    self.assertIs(is_corner(game, division), is_end(game, division))
                    self.assertIs(is_corner(game, tuple(division)), is_end(game, division))
                    found.add((players, is_end(game, division)))
        self.assertEqual(found, {(1, True), *itertools.product(range(2, 6), (True, False))})

    def test_nearly_tight(self):
        game = game_of(2, 1, 3, 1)
        near = ratios([1 + Fraction(1, LONG), 2 - Fraction(1, LONG)])
        self.assertEqual([tight_groups(game, near), is_corner(game, near)], [[], False])
        self.assertEqual(tight_groups(game, [(1, 1), (2, 1)]), [(0,)])
        self.assertIs(is_corner(game, [(1, 1), (2, 1)]), True)
        # The same groups are tight, but another one goes.
        self.assertIs(is_corner(game_of(2, 1, 3, 3), [(1, 1), (2, 1)]), False)

    def test_one_player(self):
        for worth in (-4, 0, 9):
            game = game_of(1, worth)
            best = [(worth, 1)]
            self.assertEqual([tight_groups(game, best), is_corner(game, best), corners(game),
                              corner_shares(game, best)], [[], True, [best], [1]])

    def test_corners_of_five(self):
        for game in convex_games(5, 2, 112):
            for order in list(itertools.permutations(range(5)))[::7]:
                division = joined(game, list(order))
                self.assertIs(is_corner(game, division), True)
                other = joined(game, order[::-1])
                self.assertIs(is_corner(game, blended([division, other], [1, 1])), False)

    def test_not_division(self):
        for value in NO_DIVISIONS_OF_FIVE:
            for call in (tight_groups, is_corner, corner_shares):
                with self.subTest(value=value), self.assertRaises(NotDivision):
                    call(poor(), value)


class Corners(unittest.TestCase):
    def assert_corners(self, game):
        told = corners(game)
        self.assertIs(type(told), list)
        for division in told:
            self.assertEqual([type(division), len(division)], [list, game.players])
            for one in division:
                self.assertEqual([type(one), type(one[0]), type(one[1])], [tuple, int, int])
                self.assertEqual([one[1] >= 1, math.gcd(*one)], [True, 1])
            self.assertIs(is_corner(game, division), True)
        self.assertEqual(told, [ratios(amounts) for amounts in sorted(set(map(tuple, all_corners(game))))])
        self.assertEqual(len(told) == 0, calm_division(game) is None)
        return len(told)

    def test_all_corners(self):
        most = dict.fromkeys(range(1, 5), 0)
        for players in range(1, 5):
            counts = set()
            for game in [*calm_games(players, 20, 20, 113), *some_games(players, 8, 20, seed=113),
                         *convex_games(players, 3, 113), Game(players, dict.fromkeys(all_groups(players), 1))]:
                counts.add(self.assert_corners(game))
            most[players] = max(counts)
            self.assertTrue(players == 1 or 1 in counts)
            self.assertTrue(players == 1 or 0 in counts)
        self.assertEqual(most, {1: 1, 2: 2, 3: 6, 4: 24})

    def test_corners_of_convex_games(self):
        for players in range(1, 5):
            for game in convex_games(players, 2, 114):
                orders = list(itertools.permutations(range(players)))
                expected = sorted({tuple(one[0] for one in joined(game, order)) for order in orders})
                self.assertEqual(corners(game), [[(one, 1) for one in amounts] for amounts in expected])

    def test_order_by_size(self):
        game = game_of(2, -100, 1, -20)
        self.assertEqual(corners(game), [[(-100, 1), (101, 1)], [(21, 1), (-20, 1)]])
        worths = {group: 3 if group in ((0, 1), (0, 2), (1, 2)) else 0 for group in all_groups(4)}
        game = Game(4, {**worths, (0, 1, 2, 3): 5})
        self.assertIn([(3, 2), (3, 2), (3, 2), (1, 2)], corners(game))
        self.assert_corners(game)

    def test_just_one(self):
        self.assertEqual(corners(additive([3, -4, 5, 0])), [[(3, 1), (-4, 1), (5, 1), (0, 1)]])
        self.assertEqual(corners(game_of(3, 0, 4, 6, 4, 0, 4, 0)), [[(2, 1)] * 3])
        self.assertEqual(corners(game=game_of(2, 1, 3, 2)), [[(1, 1), (2, 1)]])
        self.assertEqual(corners(game_of(2, 1, 2, 2)), [])

    def test_shifted_games(self):
        for game in calm_games(4, 3, 20, 115):
            more = [5, -7, 0, 100]
            told = [[(fraction(one) + step) for one, step in zip(division, more)] for division in corners(game)]
            self.assertEqual(corners(shifted(game, more)), [ratios(amounts) for amounts in sorted(told)])

    def test_too_many(self):
        for game in (additive([1] * 5), *some_games(5, 3, 20, seed=116)):
            with self.assertRaises(TooMany) as caught:
                corners(game)
            self.assertEqual(caught.exception.players, 5)


class Shares(unittest.TestCase):
    def assert_shares(self, game, division, ends):
        """Shares of the corners whose mean is the division."""
        told = corner_shares(game, division)
        self.assertEqual([type(told), len(told)], [list, len(ends)])
        self.assertTrue(all(type(share) is int and share >= 0 for share in told))
        self.assertEqual(math.gcd(*told), 1)
        mean = [sum(share * fraction(end[k]) for share, end in zip(told, ends)) / sum(told)
                for k in range(game.players)]
        self.assertEqual(ratios(mean), [tuple(one) for one in division])
        self.assertEqual(corner_shares(game, tuple(division)), told)

    def test_calm_divisions(self):
        source = random.Random(117)
        for players in range(1, 5):
            for game in [*calm_games(players, 4 if players == 4 else 12, 20, 117), *convex_games(players, 1, 117)]:
                ends = corners(game)
                for division in (least_division(game), calm_division(game), *ends[:3]):
                    self.assert_shares(game, division, ends)
                for most in (1, 10, LONG):
                    shares = [source.randint(1, most) for end in ends]
                    self.assert_shares(game, blended(ends, shares), ends)

    def test_divisions_that_are_not_calm(self):
        for players in range(2, 5):
            for game in [*calm_games(players, 6, 20, 118), *some_games(players, 6, 20, seed=118)]:
                for division in (even_division(game), joined(game, list(range(players)))):
                    calm = all(total(division, group) >= game[group] for group in game)
                    self.assertEqual(corner_shares(game, division) is not None, calm)
                near = ratios(all_corners(game)[0]) if all_corners(game) else None
                if near is not None and tight_groups(game, near):
                    group = tight_groups(game, near)[0]
                    other = next(k for k in range(players) if k not in group)
                    near[group[0]] = as_ratio(fraction(near[group[0]]) - Fraction(1, LONG))
                    near[other] = as_ratio(fraction(near[other]) + Fraction(1, LONG))
                    self.assertIsNone(corner_shares(game, near))

    def test_only_one_way(self):
        game = game_of(2, 0, 4, 1)
        self.assertEqual(corner_shares(game, [(0, 1), (4, 1)]), [1, 0])
        self.assertEqual(corner_shares(game, [(3, 1), (1, 1)]), [0, 1])
        self.assertEqual(corner_shares(division=[(1, 2), (7, 2)], game=game), [5, 1])
        self.assertEqual(corner_shares(game, [(2, 1), (2, 1)]), [1, 2])
        self.assertIsNone(corner_shares(game, [(-1, 1), (5, 1)]))
        self.assertIsNone(corner_shares(poor(), even_division(poor())))

    def test_not_division_then_too_many(self):
        for game in (additive([1] * 5), Game(5, {group: 1 for group in all_groups(5)})):
            for value in (None, [], [(1, 1)] * 4, [(1, 1)] * 6, [(1, 1), (2, 1), (1, 1), (1, 1), (1, 1)]):
                with self.assertRaises(NotDivision):
                    corner_shares(game, value)
            with self.assertRaises(TooMany) as caught:
                corner_shares(game, even_division(game))
            self.assertEqual(caught.exception.players, 5)


class Everywhere(unittest.TestCase):
    def answers(self, game):
        best = least_division(game)
        return [corners(game), corner_shares(game, best), tight_groups(game, best), is_corner(game, best)]

    def test_arguments_stay_and_results_are_new(self):
        games = [game for players in range(1, 5) for game in calm_games(players, 4, 30, 119)]
        first = [self.answers(game) for game in games]
        kept = copy.deepcopy(first)
        for ends, shares, groups, answer in first:
            for end in ends:
                end.clear()
            for told in (ends, shares, groups):
                told.clear()
        for game, told in reversed(list(zip(games, kept))):
            self.assertEqual(self.answers(Game(game.players, dict(reversed(game.worths().items())))), told)

    def test_divisions_stay(self):
        division = [(7, 3)] * 3
        for call in (tight_groups, is_corner, corner_shares):
            call(division=division, game=rich())
        self.assertEqual(division, [(7, 3)] * 3)

    def test_great_worths_in_time(self):
        for game in [*calm_games(4, 3, 10 ** 30, 120), *some_games(4, 2, 10 ** 30, seed=120)]:
            self.assertLess(seconds(corners, game), 3)
            for division in (least_division(game), even_division(game)):
                for call in (tight_groups, is_corner, corner_shares):
                    self.assertLess(seconds(call, game, division), 4)
            self.assertEqual([[fraction(one) for one in end] for end in corners(game)],
                             sorted(list(end) for end in set(map(tuple, all_corners(game)))))
        game = calm_games(5, 1, 10 ** 30, 121)[0]
        for call in (tight_groups, is_corner):
            self.assertLess(seconds(call, game, least_division(game)), 1)


if __name__ == "__main__":
    unittest.main()
