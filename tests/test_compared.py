"""Points 4, 5 and 71 to 75: games compared for every division."""

import copy
import itertools
import math
import unittest
from fractions import Fraction

from leastcomplaint.calm import calm_division
from leastcomplaint.compared import (
    division_between, groups_same, implies, multipliers, same_divisions, shows_implied,
)
from leastcomplaint.errors import Mismatch
from leastcomplaint.games import Game, additive, renamed
from reckoning import LONG, all_corners, all_groups, fraction, game_of, seconds, some_games, total
from samples import calm_games

OF_TWO = (implies, division_between, multipliers, same_divisions)


def rich():
    return game_of(3, 0, 4, 7, 4, 0, 4, 0)


def poor():
    return game_of(3, 0, 4, 5, 4, 0, 4, 0)


def changed(game, group, worth):
    return Game(game.players, {**game.worths(), group: worth})


def is_calm_in(game, amounts):
    """Whether a list of fractions is a calm division of a game."""
    if sum(amounts) != game[game.whole]:
        return False
    return all(sum(amounts[k] for k in group) >= game[group] for group in game)


def by_corners(one, other):
    """Whether all corners of a game of at most four players are calm in another one."""
    return all(is_calm_in(other, corner) for corner in all_corners(one))


def is_barring(game, family):
    """Whether a value is a family that bars a game."""
    if not isinstance(family, dict) or not all(key in all_groups(game.players) for key in family):
        return False
    if not all(type(weight) is int and weight >= 1 for weight in family.values()):
        return False
    counts = {sum(weight for group, weight in family.items() if k in group) for k in range(game.players)}
    if len(counts) != 1 or min(counts) < 1:
        return False
    return sum(weight * game[group] for group, weight in family.items()) > min(counts) * game[game.whole]


def is_right(one, other, group, told):
    """What point 72 says of the tuple for a group, whose numbers are integers."""
    scale, weights, rest = told
    if scale < 1 or any(key not in all_groups(one.players) or weights[key] < 1 for key in weights):
        return False
    for k in range(one.players):
        if sum(weight for key, weight in weights.items() if k in key) + rest != (scale if k in group else 0):
            return False
    earned = sum(weight * one[key] for key, weight in weights.items()) + rest * one[one.whole]
    return earned >= scale * other[group]


def is_evidence(one, other, paper):
    """What point 73 says of a paper with numbers that are integers."""
    if is_barring(one, paper):
        return True
    if one[one.whole] != other[other.whole] or set(paper) != set(all_groups(one.players)):
        return False
    if any(isinstance(told, int) for told in paper.values()):
        return False
    return all(is_right(one, other, group, told) for group, told in paper.items())


def pairs(players, many, seed):
    """Pairs of games: such that imply one another, such that nearly do, and some that have little to do with it."""
    calm = calm_games(players, many, 20, seed)
    found = list(zip(calm, calm[1:])) + list(zip(some_games(players, many, 20, seed), calm))
    for k, game in enumerate(calm):
        group = all_groups(players)[k % (2 ** players - 1)]
        found += [(game, game), (game, changed(game, group, game[group] - 1 - k % 3))]
        found.append((found[-1][1], game))
        found.append((game, changed(game, game.whole, game[game.whole] + 1)))
        lower = {key: worth - (len(key) * k) % 4 for key, worth in game.worths().items()}
        found.append((game, Game(players, {**lower, game.whole: game[game.whole]})))
        if players < 5:
            corners = all_corners(game)
            low = {key: math.floor(min(sum(corner[i] for i in key) for corner in corners)) for key in game}
            found += [(game, Game(players, low)), (Game(players, low), game)]
            found.append((game, changed(Game(players, low), group, low[group] + 1)))
    return found


class Interface(unittest.TestCase):
    def setUp(self):
        self.one = game_of(2, 1, 5, 2)
        self.other = game_of(2, 1, 5, 0)

    def test_first_lines(self):
        one, other = self.one, self.other
        self.assertEqual(
            [implies(one, other), implies(other, one), same_divisions(one, one + other * 0),
             division_between(one, other)],
            [True, False, True, None],
        )

    def test_second_lines(self):
        one, other = self.one, self.other
        self.assertEqual(
            [shows_implied(one, other, multipliers(one, other)), multipliers(other, one),
             groups_same([one, other, one])],
            [True, None, [[0, 2], [1]]],
        )

    def test_third_lines(self):
        self.assertIs(shows_implied(game_of(2, 1, 1, 1), self.one, {(0,): 1, (1,): 1}), True)


class Implied(unittest.TestCase):
    def assert_one_of_two(self, one, other):
        """Either evidence, or a division that is calm in one game and not a calm division of the other one."""
        told, division, paper = implies(one, other), division_between(one, other), multipliers(one, other)
        self.assertIs(type(told), bool)
        self.assertEqual([division is None, paper is not None], [told, told])
        if told:
            self.assertIs(type(paper), dict)
            if calm_division(one) is None:
                self.assertTrue(is_barring(one, paper))
            else:
                self.assertFalse(is_barring(one, paper))
                for scale, weights, rest in paper.values():
                    self.assertEqual([type(scale), type(weights), type(rest)], [int, dict, int])
                    self.assertTrue(all(type(weight) is int for weight in weights.values()))
            self.assertTrue(is_evidence(one, other, paper))
            self.assertIs(shows_implied(one, other, paper), True)
        else:
            self.assertIs(type(division), list)
            for ratio in division:
                self.assertEqual([type(ratio), math.gcd(*ratio), ratio[1] >= 1], [tuple, 1, True])
            amounts = [fraction(ratio) for ratio in division]
            self.assertEqual(len(amounts), one.players)
            self.assertTrue(is_calm_in(one, amounts))
            self.assertFalse(is_calm_in(other, amounts))
        return told

    def test_pairs(self):
        kinds = set()
        for players in range(1, 6):
            for one, other in pairs(players, 4 if players == 5 else 8, 71):
                told = self.assert_one_of_two(one, other)
                if players < 5:
                    self.assertEqual(told, by_corners(one, other))
                self.assertIs(same_divisions(one, other), told and implies(other, one))
                kinds.add((players, told, calm_division(one) is None))
        for players in range(2, 6):
            self.assertTrue({(players, True, True), (players, True, False), (players, False, False)} <= kinds)

    def test_without_calm_divisions(self):
        for other in (rich(), poor(), poor() * 3, -rich(), additive([1, 2, 3])):
            self.assertIs(implies(poor(), other), True)
            self.assertIsNone(division_between(poor(), other))
            self.assertTrue(is_barring(poor(), multipliers(poor(), other)))
        self.assertIs(implies(rich(), poor()), False)
        self.assertIs(same_divisions(poor(), rich()), False)
        self.assertIs(same_divisions(poor(), changed(poor(), (0, 1, 2), 2)), True)

    def test_with_itself(self):
        for players in range(1, 6):
            for game in some_games(players, 8, 30, seed=72):
                self.assertIs(self.assert_one_of_two(game, game), True)
                self.assertIs(same_divisions(game, Game(players, game.worths())), True)

    def test_other_worth_of_the_whole(self):
        for players in range(1, 6):
            for game in calm_games(players, 6, 20, 73):
                for step in (-1, 1):
                    other = changed(game, game.whole, game[game.whole] + step)
                    self.assertIs(self.assert_one_of_two(game, other), False)

    def test_one_player(self):
        one, other = game_of(1, 4), game_of(1, -5)
        self.assertEqual([implies(one, one), division_between(one, one), same_divisions(one, one)], [True, None, True])
        self.assertEqual([implies(one, other), division_between(one, other)], [False, [(4, 1)]])
        self.assertIsNone(multipliers(one, other))
        self.assertEqual(multipliers(one, one), {(0,): (1, {}, 1)})
        self.assertEqual(groups_same([one, other, one]), [[0, 2], [1]])

    def test_great_and_small_differences(self):
        # The whole gets a worth that leaves just one calm division; any worth that is greater by 1 breaks it.
        tight = game_of(3, 2, 4, 6, 4, 2, 4, 2)
        self.assertIs(implies(tight, additive([2, 2, 2])), True)
        self.assertIs(same_divisions(tight, additive([2, 2, 2])), True)
        for group in all_groups(3)[:2]:
            self.assertEqual(division_between(tight, changed(tight, group, tight[group] + 1)), [(2, 1)] * 3)

    def test_mismatch(self):
        games = [additive([1] * players) for players in range(1, 6)]
        for one, other in itertools.permutations(games, 2):
            for call in OF_TWO:
                with self.assertRaises(Mismatch):
                    call(one, other)
            for paper in ({}, {(0,): 1}, None):
                with self.assertRaises(Mismatch):
                    shows_implied(one, other, paper)
            for rows in ([one, other], [one, one, other, one], [one, other, other]):
                with self.assertRaises(Mismatch):
                    groups_same(rows)

    def test_greater_worths(self):
        """Point 75."""
        for players in range(1, 6):
            games = calm_games(players, 6, 20, 74)
            for k, game in enumerate(games):
                lower = {key: worth - (k + len(key)) % 3 for key, worth in game.worths().items()}
                other = {key: worth - (k * len(key)) % 5 for key, worth in game.worths().items()}
                lower[game.whole] = other[game.whole] = game[game.whole]
                most = Game(players, {key: max(lower[key], other[key]) for key in game})
                for made in (Game(players, lower), Game(players, other), most):
                    self.assertIs(implies(game, made), True)
            for one, first, second in itertools.product(games[:3], games[:3], games[2:5]):
                most = Game(players, {key: max(first[key], second[key]) for key in first})
                if implies(one, first) and implies(one, second):
                    self.assertIs(implies(one, most), True)


class Shown(unittest.TestCase):
    def changes(self, paper, players):
        """A paper with one number, key or dict changed, left out or put in."""
        for key in list(paper):
            yield {other: paper[other] for other in paper if other != key}
            if isinstance(paper[key], int):
                yield from [{**paper, key: paper[key] + step} for step in (-1, 1, -paper[key])]
                continue
            scale, weights, rest = paper[key]
            yield from [{**paper, key: told} for told in (
                (scale + 1, weights, rest), (scale - 1, weights, rest), (0, weights, rest), (-scale, weights, rest),
                (scale, weights, rest + 1), (scale, weights, rest - 1), (scale, {}, rest), (scale, {}, scale),
                (scale * 3, {other: weight * 3 for other, weight in weights.items()}, rest * 3),
            )]
            for other in all_groups(players):
                more = {**weights, other: weights.get(other, 0) + 1}
                yield {**paper, key: (scale, more, rest)}
                if other in weights:
                    fewer = {x: weight for x, weight in weights.items() if x != other}
                    yield {**paper, key: (scale, fewer, rest)}
                    yield {**paper, key: (scale, {**weights, other: weights[other] - 1}, rest)}
        told = next(iter(paper.values()))
        if isinstance(told, int):
            yield {key: weight * 3 for key, weight in paper.items()}
        yield from [{**paper, key: told} for key in ((players,), (), (1, 0), (0, 0), (-1,))]

    def test_changed_papers(self):
        found = set()
        for players in range(1, 5):
            for one, other in pairs(players, 3, 75)[::2]:
                paper = multipliers(one, other)
                if paper is None:
                    continue
                for told in self.changes(paper, players):
                    expected = is_evidence(one, other, told)
                    self.assertIs(shows_implied(one, other, told), expected, told)
                    found.add((expected, any(isinstance(x, int) for x in told.values())))
        self.assertEqual(found, set(itertools.product((True, False), repeat=2)))

    def test_papers_for_other_games(self):
        for players in range(2, 5):
            games = [game for pair in pairs(players, 2, 76) for game in pair][::4][:7]
            papers = [multipliers(one, other) for one, other in itertools.product(games, repeat=2)]
            papers = [paper for paper in papers if paper is not None][::2]
            for one, other in itertools.product(games, repeat=2):
                for paper in papers:
                    expected = is_evidence(one, other, paper)
                    self.assertIs(shows_implied(one, other, paper), expected)
                    if expected:
                        self.assertIs(implies(one, other), True)

    def test_the_whole_among_the_weights(self):
        game = game_of(2, 1, 5, 2)
        paper = {(0,): (1, {(0,): 1}, 0), (1,): (1, {(1,): 1, (0, 1): 4}, -4), (0, 1): (2, {(0, 1): 2}, 0)}
        self.assertIs(shows_implied(game, game, paper), True)
        self.assertIs(shows_implied(game, game, {**paper, (0, 1): (1, {}, 1)}), True)
        self.assertIs(shows_implied(game, game, {**paper, (0, 1): (1, {(0,): 1, (1,): 1}, 0)}), False)
        self.assertIs(shows_implied(game, changed(game, (0, 1), 4), paper), False)
        self.assertIs(shows_implied(game, changed(game, (0,), 2), paper), False)
        self.assertIs(shows_implied(game, changed(game, (0,), -9), paper), True)

    def test_tuples_for_a_game_without_calm_divisions(self):
        game = game_of(2, 3, 4, 3)
        paper = {(0,): (1, {(0,): 1}, 0), (1,): (1, {(1,): 1}, 0), (0, 1): (1, {}, 1)}
        self.assertIs(shows_implied(game, game, paper), True)
        self.assertIs(shows_implied(game, changed(game, (0, 1), 5), paper), False)
        self.assertIs(shows_implied(game, changed(game, (0, 1), 5), {(0,): 1, (1,): 1}), True)
        self.assertIs(shows_implied(game, changed(game, (0,), 10), paper), False)
        strong = {**paper, (0,): (1, {(0,): 8, (1,): 7}, -7)}
        self.assertIs(shows_implied(game, changed(game, (0,), 17), strong), True)
        self.assertIs(shows_implied(game, changed(game, (0,), 18), strong), False)

    def test_families(self):
        self.assertIs(shows_implied(poor(), rich(), {(0, 1): 1, (0, 2): 1, (1, 2): 1}), True)
        self.assertIs(shows_implied(poor(), rich(), {(0, 1): 5, (0, 2): 5, (1, 2): 5}), True)
        self.assertIs(shows_implied(rich(), rich(), {(0, 1): 1, (0, 2): 1, (1, 2): 1}), False)
        self.assertIs(shows_implied(game_of(3, 0, 4, 6, 4, 0, 4, 0), rich(), {(0, 1): 1, (0, 2): 1, (1, 2): 1}), False)
        self.assertIs(shows_implied(poor(), rich(), {(0, 1): 1, (0, 2): 1, (1, 2): 2}), False)
        self.assertIs(shows_implied(poor(), rich(), {(0, 1): 1, (2,): 1}), False)
        self.assertIs(shows_implied(poor(), rich(), {}), False)

    def test_other_values(self):
        game = game_of(2, 1, 5, 2)
        paper = multipliers(game, game)
        self.assertIs(shows_implied(game, game, paper), True)
        weights = {(0,): 1}
        for told in (None, 1, (), (1, weights), (1, weights, 0, 0), [1, weights, 0], (True, weights, 0), (1, [(0,)], 0),
                     (1, weights, False), (1.0, weights, 0), (1, {(0,): True}, 0), (1, {(0,): 1.0}, 0), weights, "abc",
                     (1, {(False,): 1}, 0), (1, {(0.0,): 1}, 0), (1, {0: 1}, 0), (1, {"0": 1}, 0), (1, None, 0)):
            self.assertIs(shows_implied(game, game, {**paper, (0,): told}), False, told)
        for value in (None, 0, [], (), "", list(paper), list(paper.items()), {}):
            self.assertIs(shows_implied(game, game, value), False, value)
        false = {(False,) if key == (0,) else key: told for key, told in paper.items()}
        self.assertIs(shows_implied(game, game, false), False)
        self.assertIs(shows_implied(game, game, {**paper, (1,): 1}), False)
        # A number that stands for a group among tuples makes no family of them either.
        self.assertIs(shows_implied(game_of(2, 3, 4, 3), game, {(0,): 1, (1,): 1, (0, 1): (1, {}, 1)}), False)

    def test_great_numbers_and_names(self):
        game = game_of(2, 1, 5, 2)
        paper = {(1,): (LONG, {(1,): LONG}, 0), (0, 1): (LONG, {}, LONG), (0,): (LONG, {(0,): LONG}, 0)}
        self.assertIs(shows_implied(paper=paper, other=game, one=game), True)
        self.assertIs(shows_implied(game_of(2, 3, 4, 3), game, {(0,): LONG, (1,): LONG}), True)


class Parted(unittest.TestCase):
    def expected(self, games):
        """Indices of games with the same corners."""
        parts = {}
        for k, game in enumerate(games):
            parts.setdefault(frozenset(tuple(corner) for corner in all_corners(game)), []).append(k)
        return sorted(parts.values())

    def test_by_corners(self):
        for players in range(1, 5):
            games = [game for pair in pairs(players, 4, 77) for game in pair]
            games = games[::3][:40] + some_games(players, 4, 20, seed=77)
            told = groups_same(games)
            self.assertEqual(told, self.expected(games))
            self.assertEqual(groups_same(tuple(games)), told)
            self.assertTrue(any(len(part) > 1 for part in told))
            for part, other in itertools.product(told[:6], repeat=2):
                self.assertIs(same_divisions(games[part[-1]], games[other[0]]), part == other)

    def test_five_players(self):
        game, *rest = calm_games(5, 4, 20, 78)
        low = changed(game, (0, 3), game[(0, 3)] - 1000)
        far = Game(5, {key: -1000 * len(key) ** 2 for key in game})
        barred = [changed(far, (0,), 1000), changed(additive([1] * 5), (1, 2), 3)]
        games = [game, barred[0], *rest, low, barred[1], game * 1, low]
        told = groups_same(games)
        self.assertIn([1, 6], told)
        self.assertEqual(sorted(k for part in told for k in part), list(range(len(games))))
        for one, other in itertools.combinations(range(len(games)), 2):
            same = any(one in part and other in part for part in told)
            self.assertIs(same_divisions(games[one], games[other]), same)

    def test_no_games(self):
        self.assertEqual(groups_same([]), [])
        self.assertEqual(groups_same(()), [])
        self.assertEqual(groups_same(games=[poor()]), [[0]])

    def test_without_calm_divisions(self):
        games = [poor(), rich(), poor() * 2, game_of(3, 9, 0, 0, 0, 0, 0, 0), rich(), rich() * 2, -rich()]
        self.assertEqual(groups_same(games), [[0, 2, 3, 6], [1, 4], [5]])


class Everywhere(unittest.TestCase):
    def answers(self, games):
        told = [call(one, other) for call in OF_TWO for one, other in itertools.product(games, repeat=2)]
        return [*told, groups_same(games)]

    def test_arguments_stay_and_results_are_new(self):
        for players in range(1, 5):
            games = [*calm_games(players, 2, 20, 79), *some_games(players, 2, 20, seed=79)]
            worths = [game.worths() for game in games]
            first, second = self.answers(games), self.answers(games)
            kept = copy.deepcopy(second)
            self.assertEqual(first, second)
            for one in first:
                if isinstance(one, dict):
                    for told in one.values():
                        if isinstance(told, tuple):
                            told[1].clear()
                if isinstance(one, (dict, list)):
                    for inner in list(one):
                        if isinstance(inner, list):
                            inner.clear()
                    one.clear()
            self.assertEqual(second, kept)
            again = [Game(players, dict(reversed(told.items()))) for told in worths]
            self.assertEqual(self.answers(again), kept)
            self.assertEqual([game.worths() for game in games], worths)

    def test_shown_paper_stays(self):
        for one in (rich(), poor()):
            paper = multipliers(one, one)
            kept = copy.deepcopy(paper)
            self.assertIs(shows_implied(one, one, dict(reversed(paper.items()))), True)
            shows_implied(one, one, paper)
            self.assertEqual(paper, kept)

    def test_names(self):
        for call in OF_TWO:
            self.assertEqual(call(other=poor(), one=rich()), call(rich(), poor()))

    def test_renamed_games(self):
        for one, other in pairs(4, 4, 80)[::3]:
            order = [2, 0, 3, 1]
            self.assertEqual(implies(one, other), implies(renamed(one, order), renamed(other, order)))

    def test_great_worths_in_time(self):
        games = [*some_games(5, 3, 10 ** 30, seed=81), *calm_games(5, 3, 10 ** 30, 81)]
        for one, other in itertools.product(games, repeat=2):
            for call in OF_TWO:
                self.assertLess(seconds(call, one, other), 3)
            paper = multipliers(one, other)
            self.assertEqual(paper is not None, division_between(one, other) is None)
            if paper is not None:
                self.assertTrue(is_evidence(one, other, paper))
        self.assertLess(seconds(groups_same, games * 6), 8)

    def test_amounts_between_integers(self):
        worths = {group: 3 if group in ((0, 1), (0, 2), (1, 2)) else 0 for group in all_groups(4)}
        game = Game(4, {**worths, (0, 1, 2, 3): 5})
        more = changed(game, (0, 1, 2), 4)
        self.assertIs(same_divisions(game, more), True)
        self.assertIs(implies(game, changed(game, (0, 1, 2), 5)), False)
        division = division_between(game, changed(game, (0, 1, 2), 5))
        self.assertEqual(total(division, (0, 1, 2)), Fraction(9, 2))


if __name__ == "__main__":
    unittest.main()
