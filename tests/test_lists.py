"""Points 5, 24 and 101 to 103: games as the least of a few price lists."""

import copy
import math
import random
import unittest
from fractions import Fraction

from leastcomplaint.bounds import needed
from leastcomplaint.calm import calm_division
from leastcomplaint.divisions import even_division, is_calm
from leastcomplaint.errors import BadAmounts
from leastcomplaint.games import Game, additive
from leastcomplaint.least import least_division
from leastcomplaint.lists import closed, group_without, made_by, price_lists, shows_lists
from reckoning import (
    LONG, all_groups, as_ratio, fraction, game_of, greatest_earned, seconds, simple_families, some_games, total,
)
from samples import calm_games

# The simple families of the members of a group alone, for each group of at most four players.
SIMPLE = {group: simple_families(len(group), all_groups(len(group))) for group in all_groups(5) if len(group) < 5}


def no_lists():
    return game_of(3, 0, 4, 5, 4, 0, 4, 0)


def earned_alone(game, group):
    """The greatest sum of weights times worths over the families of the members of a group, with the count 1."""
    alone = Game(len(group), {other: game[tuple(group[k] for k in other)] for other in all_groups(len(group))})
    return greatest_earned(alone, SIMPLE[tuple(range(len(group)))])


def made_games(players, many, most, seed):
    """Games that price lists of integers make, with these lists."""
    source = random.Random(seed * 10 + players)
    found = []
    for k in range(many):
        lists = [[(source.randint(-most, most), 1) for player in range(players)] for some in range(1 + k % 7)]
        found.append((Game(players, {group: int(min(total(one, group) for one in lists))
                                     for group in all_groups(players)}), lists))
    return found


class ListCase(unittest.TestCase):
    def assert_ratio(self, one):
        self.assertEqual([type(one), type(one[0]), type(one[1])], [tuple, int, int])
        self.assertEqual([one[1] >= 1, math.gcd(*one)], [True, 1])

    def assert_one_of_two(self, game):
        """Either price lists that make the game, or a group whose part is barred; tells whether there are lists."""
        lists, told = price_lists(game), group_without(game)
        self.assertEqual(told is None, lists is not None)
        if lists is None:
            self.assertEqual([type(told), len(told), type(told[1])], [tuple, 2, dict])
            group, family = told
            self.assertIn(group, all_groups(game.players))
            self.assertTrue(set(family) <= set(all_groups(len(group))))
            self.assertTrue(all(type(weight) is int and weight >= 1 for weight in family.values()))
            counts = {sum(weight for key, weight in family.items() if k in key) for k in range(len(group))}
            self.assertEqual([len(counts), min(counts) >= 1], [1, True])
            earned = sum(weight * game[tuple(group[k] for k in key)] for key, weight in family.items())
            self.assertGreater(earned, min(counts) * game[group])
            return False
        self.assertEqual([type(lists), len(lists)], [list, len(game)])
        for own, prices in zip(all_groups(game.players), lists):
            self.assertEqual([type(prices), len(prices)], [list, game.players])
            for one in prices:
                self.assert_ratio(one)
            self.assertEqual(total(prices, own), game[own])
            for group in all_groups(game.players):
                self.assertGreaterEqual(total(prices, group), game[group])
        self.assertIs(shows_lists(game, lists), True)
        return True


class Interface(unittest.TestCase):
    def test_first_lines(self):
        game = no_lists()
        self.assertEqual(
            [price_lists(game), group_without(game)[0], closed(game)[(0, 1, 2)], closed(game)[(0, 2)]],
            [None, (0, 1, 2), (6, 1), (4, 1)],
        )

    def test_second_lines(self):
        made = made_by([[(1, 1), (5, 1)], [(3, 1), (2, 1)]])
        self.assertEqual(
            [made.worths(), shows_lists(made, price_lists(made)), group_without(made)],
            [{(0,): 1, (0, 1): 5, (1,): 2}, True, None],
        )


class Lists(ListCase):
    def test_one_of_two(self):
        kinds = set()
        for players in range(1, 6):
            for game in some_games(players, 30, 30, seed=101):
                kinds.add((players, self.assert_one_of_two(game)))
            for k, (game, lists) in enumerate(made_games(players, 14, 30, 101)):
                self.assertIs(self.assert_one_of_two(game), True)
                self.assertIs(shows_lists(game, lists), True)
                group = all_groups(players)[k % len(game)]
                for step in (-1, 1, 40):
                    changed = Game(players, {**game.worths(), group: game[group] + step})
                    self.assertIs(shows_lists(changed, lists), False)
                    kinds.add((players, self.assert_one_of_two(changed)))
        for players in range(2, 6):
            self.assertTrue({(players, True), (players, False)} <= kinds)

    def test_a_part_without_calm_divisions(self):
        """The whole game has calm divisions, but a lesser group has not."""
        game = game_of(3, 3, 5, 100, 4, 3, 4, 0)
        self.assertIsNone(price_lists(game))
        self.assertEqual(group_without(game), ((0, 1), {(0,): 1, (1,): 1}))
        worths = {group: 9 * len(group) ** 2 for group in all_groups(4)}
        game = Game(4, {**worths, (1, 2, 3): 50, (0, 1, 2, 3): 200})
        self.assertIsNotNone(calm_division(game))
        self.assertIsNone(price_lists(game))
        self.assertEqual(group_without(game), ((1, 2, 3), {(0, 1): 1, (0, 2): 1, (1, 2): 1}))

    def test_worths_below_0(self):
        for game in (game_of(2, -5, -5, -5), game_of(2, -5, -11, -5), game_of(3, -9, -9, -9, -9, -9, -9, -9),
                     -additive([5, 0, 7, 1]), game_of(1, -4), game_of(1, 0), game_of(2, 0, 0, 0)):
            self.assert_one_of_two(game)

    def test_lists_of_parts(self):
        """Price lists make a game exactly if each part has a calm division."""
        for players in range(1, 5):
            for game in some_games(players, 30, 12, seed=102):
                calm = all(earned_alone(game, group) <= game[group] for group in game)
                self.assertEqual(price_lists(game) is not None, calm)

    def test_one_player(self):
        for worth in (-7, 0, 7):
            game = game_of(1, worth)
            self.assertEqual([price_lists(game), group_without(game), closed(game)],
                             [[[(worth, 1)]], None, {(0,): (worth, 1)}])


class Shown(ListCase):
    def expected(self, game, lists):
        return bool(lists) and all(min(total(one, group) for one in lists) == game[group] for group in game)

    def test_changed_lists(self):
        found = set()
        for players in range(1, 6):
            for game, lists in made_games(players, 7, 20, 103):
                rows = [lists, lists[1:], lists[:-1], lists * 3, [*lists, [(10 ** 6, 1)] * players],
                        [*lists, [(-10 ** 6, 1)] * players], [[(0, 1)] * players], [], price_lists(game)]
                for at, prices in enumerate(lists):
                    for k in range(players):
                        for step in (Fraction(1, LONG), Fraction(-1, LONG), Fraction(3, 7)):
                            row = list(prices)
                            row[k] = as_ratio(fraction(row[k]) + step)
                            rows.append([*lists[:at], row, *lists[at + 1:]])
                for some in rows:
                    told = shows_lists(game, some)
                    self.assertIs(told, self.expected(game, some))
                    self.assertIs(shows_lists(game, tuple(tuple(one) for one in some)), told)
                    found.add(told)
        self.assertEqual(found, {True, False})

    def test_one_list_and_many(self):
        game = additive([3, -4, 5])
        self.assertIs(shows_lists(game, [[(3, 1), (-4, 1), (5, 1)]]), True)
        self.assertIs(shows_lists(lists=[[(3, 1), (-4, 1), (5, 1)]], game=game), True)
        self.assertIs(shows_lists(game, [[(3, 1), (-4, 1), (5 + k, 1)] for k in range(40)]), True)
        self.assertIs(shows_lists(game, [[(3, 1), (-4, 1), (6 + k, 1)] for k in range(40)]), False)
        self.assertIs(shows_lists(game, []), False)
        self.assertIs(shows_lists(game_of(1, 0), []), False)

    def test_bad_amounts(self):
        game, right = additive([1, 2, 3]), [(1, 1), (2, 1), (3, 1)]
        for value in (None, 3, "abc", {}, [], [(1, 1)], right[:2], [*right, (0, 1)], (1, 1), [1, 2, 3],
                      {0: (1, 1), 1: (2, 1), 2: (3, 1)}, [(1, 1), (2, 1), (6, 2)], [(1, 1), (2, 1), (3, 0)],
                      [(1, 1), (2, 1), (-3, -1)], [(1, 1), (2, 1), [3, 1]], [(1, 1), (2, 1), (3.0, 1)],
                      [(1, 1), (2, 1), (3, True)], [(True, 1), (2, 1), (3, 1)], [(1, 1), (2, 1), None]):
            for lists in ([value], [right, value], [value, right], [right, right, value, []]):
                with self.subTest(value=value), self.assertRaises(BadAmounts):
                    shows_lists(game, lists)


class Made(ListCase):
    def test_sums(self):
        source = random.Random(104)
        for players in range(1, 6):
            for many in (1, 2, 3, 7, 40):
                for bottom in (1, 6, 10 ** 6):
                    lists = [[as_ratio(Fraction(source.randint(-50, 50), source.randint(1, bottom)))
                              for k in range(players)] for some in range(many)]
                    kept = copy.deepcopy(lists)
                    game = made_by(lists)
                    prices = {group: min(total(one, group) for one in lists) for group in all_groups(players)}
                    unit = math.lcm(*[price.denominator for price in prices.values()])
                    self.assertEqual(game.worths(), {group: price * unit for group, price in prices.items()})
                    self.assertEqual([game.players, lists], [players, kept])
                    self.assertEqual(made_by(tuple(tuple(one) for one in lists)), game)
                    self.assertIs(self.assert_one_of_two(game), True)
                    multiples = [[as_ratio(fraction(one) * unit) for one in prices] for prices in lists]
                    self.assertIs(shows_lists(game, multiples), True)

    def test_a_great_common_unit(self):
        bottoms = [10 ** 29 + 1, 10 ** 29 + 2, 10 ** 29 + 3]
        game = made_by([[(1, bottom) for bottom in bottoms]])
        unit = math.lcm(*bottoms)
        self.assertEqual(game[(0, 1, 2)], sum(unit // bottom for bottom in bottoms))
        self.assertEqual([game[(0,)], game[(2,)]], [unit // bottoms[0], unit // bottoms[2]])
        self.assertIs(self.assert_one_of_two(game), True)

    def test_only_least_prices_count(self):
        """A bottom that stands in no least price makes no difference."""
        self.assertEqual(made_by([[(1, 1), (1, 1)], [(3, 2), (7, 5)]]), game_of(2, 1, 2, 1))
        self.assertEqual(made_by([[(1, 2), (1, 2)]]), game_of(2, 1, 2, 1))
        self.assertEqual(made_by([[(1, 2), (1, 1)], [(1, 1), (1, 3)]]), game_of(2, 3, 8, 2))
        self.assertEqual(made_by(lists=[[(-1, 2)]]), game_of(1, -1))

    def test_bad_amounts(self):
        right = [(1, 1), (2, 1)]
        for value in (None, 0, "", {}, [], (), [[]], [()], [right, []], [right, [(1, 1)]], [[(1, 1)], right], [None],
                      [right, None], [right, right, [*right, (1, 1)]], [[(1, 1)] * 6], [[(1, 1)] * 6] * 2, right,
                      [[1, 2]], [[(1, 1), (2, 4)]], [[(1, 1), (1, 0)]], [[(1, 1), (1, -1)]], [[(1, 1), [1, 1]]],
                      [[(1, 1), (True, 1)]], [[(1, 1), (1.0, 1)]], [[(1, 1), (1, 1, 1)]], [right, {0: (1, 1), 1: (1, 1)}],
                      ["ab"], [[(1, 1), None]]):
            with self.subTest(value=value), self.assertRaises(BadAmounts):
                made_by(value)


class Closed(ListCase):
    def test_families_of_the_members(self):
        for players in range(1, 5):
            for game in [*some_games(players, 16, 30, seed=105), *calm_games(players, 6, 30, 105)]:
                told = closed(game)
                self.assertEqual([type(told), set(told)], [dict, set(all_groups(players))])
                for group in game:
                    self.assert_ratio(told[group])
                    self.assertEqual(fraction(told[group]), earned_alone(game, group))
                told.clear()
                self.assertEqual(len(closed(game=game)), 2 ** players - 1)

    def assert_least_game(self, game):
        """The worths of no group are less, price lists make the multiple, and each worth is earned by a family."""
        told = {group: fraction(one) for group, one in closed(game).items()}
        self.assertTrue(all(told[group] >= game[group] for group in game))
        if game.players > 1:
            self.assertEqual(told[game.whole], game[game.whole] + max(0, fraction(needed(game))))
        unit = math.lcm(*[one.denominator for one in told.values()])
        multiple = Game(game.players, {group: int(one * unit) for group, one in told.items()})
        self.assertIs(self.assert_one_of_two(multiple), True)
        self.assertEqual(closed(multiple), {group: as_ratio(one * unit) for group, one in told.items()})
        self.assertEqual(price_lists(game) is not None, all(told[group] == game[group] for group in game))
        for division in (even_division(game), least_division(game)):
            calm = all(total(division, group) >= told[group] for group in game)
            self.assertIs(is_calm(game, division), calm)

    def test_least_game(self):
        for players in range(1, 6):
            for game in [*some_games(players, 8, 30, seed=106), *calm_games(players, 6, 30, 106)]:
                self.assert_least_game(game)
                for group in game:
                    if len(group) < 5:
                        self.assertEqual(fraction(closed(game)[group]), earned_alone(game, group))

    def test_games_that_lists_make(self):
        for players in range(1, 6):
            for game, lists in made_games(players, 7, 30, 107):
                self.assertEqual(closed(game), {group: (game[group], 1) for group in game})

    def test_by_hand(self):
        game = game_of(3, 0, 3, 1, 3, -4, 3, -1)
        self.assertEqual(closed(game), {(0,): (0, 1), (0, 1): (3, 1), (0, 1, 2): (9, 2), (0, 2): (3, 1),
                                        (1,): (-4, 1), (1, 2): (3, 1), (2,): (-1, 1)})


class Everywhere(ListCase):
    def answers(self, game):
        return [call(game) for call in (price_lists, group_without, closed)]

    def test_arguments_stay_and_results_are_new(self):
        games = [game for players in range(1, 5) for game in some_games(players, 6, 30, seed=108)]
        games += [game for game, lists in made_games(4, 4, 30, 108)]
        first = [self.answers(game) for game in games]
        kept = copy.deepcopy(first)
        for lists, told, table in first:
            if lists is not None:
                lists[0].clear()
                lists.clear()
            if told is not None:
                told[1].clear()
            table.clear()
        for game, told in reversed(list(zip(games, kept))):
            self.assertEqual(self.answers(Game(game.players, dict(reversed(game.worths().items())))), told)

    def test_lists_do_not_share_anything(self):
        lists = price_lists(additive([1, 1, 1]))
        lists[0][0] = None
        self.assertTrue(all(one is not None for prices in lists[1:] for one in prices))

    def test_names(self):
        self.assertEqual([price_lists(game=no_lists()), group_without(game=no_lists())[0]], [None, (0, 1, 2)])

    def test_great_worths_in_time(self):
        games = some_games(5, 3, 10 ** 30, seed=109) + [game for game, lists in made_games(5, 3, 10 ** 30, 109)]
        for game in games:
            for call in (price_lists, group_without, closed):
                self.assertLess(seconds(call, game), 3)
            lists = price_lists(game)
            self.assert_one_of_two(game)
            if lists is not None:
                self.assertLess(seconds(shows_lists, game, lists * 2), 3)
                self.assertLess(seconds(made_by, lists), 3)
                self.assertEqual(made_by(lists), game)


if __name__ == "__main__":
    unittest.main()
