"""Points 81 to 83: orders of joining, bad pairs and dividends."""

import copy
import itertools
import math
import random
import unittest
from fractions import Fraction

from leastcomplaint.divisions import is_calm
from leastcomplaint.errors import BadOrder, BadPlayers, BadWorths
from leastcomplaint.games import Game, additive
from leastcomplaint.orders import (
    average, bad_pair, dividends, from_dividends, is_orderly, joined, order_against,
)
from reckoning import LONG, all_groups, as_ratio, game_of, seconds, some_games, total


def rich():
    return game_of(3, 0, 4, 7, 4, 0, 4, 0)


def worth_of(game, members):
    return game[tuple(sorted(members))] if members else 0


def added_by(game, order):
    """What each player adds who joins those before, by the sets of those who have come."""
    come, amounts = set(), {}
    for player in order:
        amounts[player] = worth_of(game, come | {player}) - worth_of(game, come)
        come.add(player)
    return [amounts[player] for player in range(game.players)]


def is_calm_for(game, amounts):
    return all(sum(amounts[k] for k in group) >= game[group] for group in all_groups(game.players))


def first_bad(game):
    """The first pair of bad groups, of all pairs."""
    found = []
    for one, other in itertools.combinations(all_groups(game.players), 2):
        first, second = set(one), set(other)
        if not first <= second and not second <= first:
            if game[one] + game[other] > worth_of(game, first | second) + worth_of(game, first & second):
                found.append((one, other))
    return min(found, default=None)


def orderly_games(players, many, seed):
    """Games that orders of joining divide calmly, for some just so."""
    source = random.Random(seed)
    games = []
    for k in range(many):
        told = {group: source.randint(0, 3) * source.randint(0, 1) for group in all_groups(players)}
        told.update({(player,): source.randint(-9, 9) for player in range(players)})
        games.append(Game(players, {group: sum(told[other] for other in told if set(other) <= set(group))
                                    for group in told}))
    return games


def some_orders(players, many=24):
    orders = list(itertools.permutations(range(players)))
    return orders[::max(1, len(orders) // many)]


class Interface(unittest.TestCase):
    def test_first_lines(self):
        self.assertEqual(
            [joined(rich(), [1, 0, 2]), bad_pair(rich()), is_orderly(rich()),
             is_calm(rich(), joined(rich(), order_against(rich())))],
            [[(4, 1), (0, 1), (3, 1)], ((0, 1), (0, 2)), False, False],
        )

    def test_second_lines(self):
        self.assertEqual(
            [average(rich()), dividends(rich())[(0, 1)], dividends(rich())[(0, 1, 2)],
             from_dividends(3, dividends(rich())) == rich()],
            [[(7, 3), (7, 3), (7, 3)], 4, -5, True],
        )

    def test_third_lines(self):
        self.assertEqual(
            [is_orderly(game_of(2, 1, 2, 5)), is_orderly(Game(2, dict(zip(all_groups(2), [1, 5, 2])))),
             average(game_of(2, 1, 5, 2))],
            [False, True, [(2, 1), (3, 1)]],
        )


class Joined(unittest.TestCase):
    def test_all_orders(self):
        for players in range(1, 6):
            for game in some_games(players, 4, 1000, seed=81):
                for order in itertools.permutations(range(players)):
                    told = joined(game, list(order))
                    self.assertEqual(told, [(amount, 1) for amount in added_by(game, order)])
                    self.assertEqual([type(told), {type(one) for one in told}], [list, {tuple}])
                    self.assertEqual(total(told, game.whole), game[game.whole])
                    self.assertEqual(joined(game, order), told)

    def test_by_hand(self):
        game = game_of(3, 5, 1, 10, -2, 3, 4, -7)
        self.assertEqual(joined(game, [0, 1, 2]), [(5, 1), (-4, 1), (9, 1)])
        self.assertEqual(joined(game, [2, 0, 1]), [(5, 1), (12, 1), (-7, 1)])
        self.assertEqual(joined(order=[1, 2, 0], game=game), [(6, 1), (3, 1), (1, 1)])
        self.assertEqual(joined(game_of(1, -5), [0]), [(-5, 1)])

    def test_bad_orders(self):
        for value in (None, 0, "", "012", [], [0], [0, 1], [0, 1, 1], [0, 1, 3], [1, 2, 3], [0, 1, 2, 0], [-1, 0, 1],
                      [0, 1, 2, 3], [False, True, 2], [0, True, 2], [0.0, 1, 2], ["0", "1", "2"], [0, None, 2], {},
                      {0: 0, 1: 1, 2: 2}, [(0,), (1,), (2,)], [0, 1, LONG], (2, 1), [[0, 1, 2]]):
            with self.subTest(value=value), self.assertRaises(BadOrder):
                joined(rich(), value)
        with self.assertRaises(BadOrder):
            joined(game_of(1, 4), [])
        with self.assertRaises(BadOrder):
            joined(game_of(1, 4), [False])

    def test_arguments_stay(self):
        order = [2, 0, 1]
        first = joined(rich(), order)
        first.clear()
        self.assertEqual([order, joined(rich(), order)], [[2, 0, 1], [(4, 1), (3, 1), (0, 1)]])


class Bad(unittest.TestCase):
    def assert_orders(self, game, orders):
        told, order = bad_pair(game), order_against(game)
        self.assertEqual(told, first_bad(game))
        self.assertIs(is_orderly(game), told is None)
        if told is None:
            self.assertIsNone(order)
            for some in orders:
                self.assertTrue(is_calm_for(game, added_by(game, some)))
        else:
            self.assertEqual([type(told), type(order)], [tuple, list])
            self.assertEqual(sorted(order), list(range(game.players)))
            self.assertFalse(is_calm_for(game, added_by(game, order)))
        return told is None

    def test_all_orders(self):
        kinds = set()
        for players in range(1, 6):
            orders = list(itertools.permutations(range(players)))
            for game in some_games(players, 30, 30, seed=82):
                kinds.add((players, self.assert_orders(game, orders)))
            for game in orderly_games(players, 12, 82):
                kinds.add((players, self.assert_orders(game, orders)))
        self.assertEqual(kinds, {(1, True), *itertools.product(range(2, 6), (True, False))})

    def test_just_so(self):
        """One worth that is greater by 1 makes a pair of groups bad where just nothing is to spare."""
        for players in range(2, 6):
            game = additive([3, -4, 5, 0, 2][:players])
            self.assertIs(self.assert_orders(game, some_orders(players)), True)
            for group in all_groups(players):
                for step in (-1, 1):
                    changed = Game(players, {**game.worths(), group: game[group] + step})
                    self.assert_orders(changed, some_orders(players))
            for group in all_groups(players)[:-1]:
                if len(group) < players:
                    self.assertIs(is_orderly(Game(players, {**game.worths(), group: game[group] + 1})), False)

    def test_groups_without_common_members(self):
        self.assertEqual(bad_pair(game_of(2, 3, 4, 2)), ((0,), (1,)))
        self.assertIsNone(bad_pair(game_of(2, 3, 5, 2)))
        self.assertEqual(bad_pair(game_of(2, -3, -6, -2)), ((0,), (1,)))
        self.assertIsNone(bad_pair(game_of(2, -3, -5, -2)))
        self.assertEqual(bad_pair(game_of(3, 0, 0, 5, 0, 0, 6, 0)), ((0,), (1, 2)))

    def test_first_pair(self):
        game = game_of(3, 5, 0, 0, 0, 5, 0, 5)
        self.assertEqual(bad_pair(game), ((0,), (1,)))
        game = game_of(3, 0, 9, 9, 9, 0, 9, 0)
        self.assertEqual(bad_pair(game), ((0, 1), (0, 2)))
        game = game_of(3, 0, 9, 18, 9, 0, 9, 10)
        self.assertEqual(bad_pair(game), ((0,), (2,)))

    def test_one_player(self):
        for worth in (-3, 0, 8):
            game = game_of(1, worth)
            self.assertEqual([bad_pair(game), order_against(game=game), is_orderly(game)], [None, None, True])


class Means(unittest.TestCase):
    def test_mean_of_all_orders(self):
        for players in range(1, 6):
            orders = list(itertools.permutations(range(players)))
            for game in some_games(players, 4, 1000, seed=83):
                rows = [added_by(game, order) for order in orders]
                told = average(game)
                self.assertEqual(told, [as_ratio(Fraction(sum(row[k] for row in rows), len(rows)))
                                        for k in range(players)])
                self.assertEqual([type(told), {type(one) for one in told}], [list, {tuple}])
                self.assertEqual(total(told, game.whole), game[game.whole])
                told.clear()
                self.assertEqual(len(average(game=game)), players)

    def test_orderly_games_have_calm_means(self):
        for players in range(1, 6):
            for game in orderly_games(players, 6, 84):
                self.assertIs(is_calm(game, average(game)), True)

    def test_dividends(self):
        for players in range(1, 6):
            for game in some_games(players, 6, 1000, seed=84):
                told = dividends(game)
                self.assertEqual([type(told), set(told)], [dict, set(all_groups(players))])
                for group in all_groups(players):
                    self.assertIs(type(told[group]), int)
                    inside = [told[other] for other in told if set(other) <= set(group)]
                    self.assertEqual(sum(inside), game[group])
                    signs = sum((-1) ** (len(group) - len(other)) * game[other]
                                for other in told if set(other) <= set(group))
                    self.assertEqual(told[group], signs)
                shares = [sum(Fraction(told[group], len(group)) for group in told if k in group)
                          for k in range(players)]
                self.assertEqual(average(game), [as_ratio(share) for share in shares])
                self.assertEqual(from_dividends(players, told), game)
                told.clear()
                self.assertEqual(len(dividends(game=game)), 2 ** players - 1)

    def test_additive_games(self):
        self.assertEqual(dividends(additive([4, -5, 0])), {**dict.fromkeys(all_groups(3), 0), (0,): 4, (1,): -5})
        self.assertEqual(average(additive([4, -5, 0])), [(4, 1), (-5, 1), (0, 1)])


class FromDividends(unittest.TestCase):
    def test_sums(self):
        source = random.Random(85)
        for players in range(1, 6):
            order = all_groups(players)
            for many in {0, 1, len(order) // 2, len(order)}:
                told = {group: source.randint(-1000, 1000) for group in source.sample(order, many)}
                kept = copy.deepcopy(told)
                game = from_dividends(players, told)
                self.assertEqual(told, kept)
                self.assertEqual(game.players, players)
                for group in order:
                    self.assertEqual(game[group], sum(told[other] for other in told if set(other) <= set(group)))
                self.assertEqual(dividends(game), {group: told.get(group, 0) for group in order})
                self.assertEqual(from_dividends(players, dict(reversed(told.items()))), game)
                told.clear()
                self.assertEqual(from_dividends(dividends=kept, players=players), game)

    def test_by_hand(self):
        game = from_dividends(3, {(0, 1): 4, (1, 2): -2, (2,): 1})
        self.assertEqual(game.worths(), dict(zip(all_groups(3), [0, 4, 3, 1, 0, -1, 1])))
        self.assertEqual(from_dividends(2, {}), game_of(2, 0, 0, 0))
        self.assertEqual(from_dividends(1, {(0,): LONG}), game_of(1, LONG))

    def test_bad_players_first(self):
        for value in (0, 6, -1, LONG, True, False, None, "3", 2.0, (2,), [3]):
            for told in ({}, {(0,): 1}, None, {"a": 1}):
                with self.subTest(value=value), self.assertRaises(BadPlayers):
                    from_dividends(value, told)

    def test_then_bad_worths(self):
        for value in (None, 0, [], (), "", [((0,), 1)], [(0,), (1,)], {(0,)}, {(): 1}, {(3,): 1}, {(1, 0): 1},
                      {(0, 0): 1}, {(0, 3): 1}, {0: 1}, {"0": 1}, {None: 1}, {(False,): 1}, {(True,): 1}, {(0.0,): 1},
                      {(-1,): 1}, {(0,): True}, {(0,): None}, {(0,): 1.0}, {(0,): "1"}, {(0,): (1, 1)},
                      {(0,): 1, (0, 1, 2, 3): 0}, {**dict.fromkeys(all_groups(3), 1), (): 0}):
            with self.subTest(value=value), self.assertRaises(BadWorths):
                from_dividends(3, value)
        with self.assertRaises(BadWorths):
            from_dividends(2, {(2,): 0})


class Everywhere(unittest.TestCase):
    def answers(self, game):
        told = [call(game) for call in (bad_pair, order_against, is_orderly, average, dividends)]
        return told + [joined(game, order) for order in some_orders(game.players)]

    def test_games_do_not_know_of_one_another(self):
        games = [game for players in range(1, 6) for game in some_games(players, 4, 50, seed=86)]
        first = [self.answers(game) for game in games]
        kept = copy.deepcopy(first)
        for one in first:
            for told in one:
                if isinstance(told, (list, dict)):
                    told.clear()
        for game, told in reversed(list(zip(games, kept))):
            self.assertEqual(self.answers(Game(game.players, dict(reversed(game.worths().items())))), told)

    def test_great_worths_in_time(self):
        for game in some_games(5, 4, 10 ** 30, seed=87):
            for call in (bad_pair, order_against, is_orderly, average, dividends):
                self.assertLess(seconds(call, game), 1)
            self.assertEqual(bad_pair(game), first_bad(game))
            self.assertEqual(from_dividends(5, dividends(game)), game)
            self.assertTrue(all(math.gcd(*one) == 1 for one in average(game)))


if __name__ == "__main__":
    unittest.main()
