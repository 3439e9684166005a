"""Points 3, 8, 9 and 21 to 24: groups and games."""

import copy
import itertools
import unittest

from leastcomplaint.errors import (
    BadAmounts, BadOrder, BadPlayers, BadWorths, Mismatch, NoGroup, NoPlayer,
)
from leastcomplaint.games import Game, additive, groups, part, put_together, renamed, shifted, turned

NO_PLAYERS = [0, -1, 6, 7, 100, -(10 ** 29), True, False, None, "3", 2.0, (3,), [3], {}]
NO_GROUPS_OF_THREE = [
    (), (3,), (0, 3), (-1,), (-1, 0), (1, 0), (0, 0), (0, 1, 1), (0, 2, 1), (0, 1, 2, 3), (10 ** 29,),
    (True,), (False,), (False, 1), (0, True), (0, True, 2), (0.0,), (0, 1.0), ("0",), (None,), ((0,),),
    ([0],), (0, [1]), ({},), [0], [0, 1], [], {}, 0, 1, True, None, "", "0", "01",
]


def all_groups(players):
    """The groups, made in another way than the program does."""
    found = []
    for many in range(1, players + 1):
        found += itertools.combinations(range(players), many)
    return sorted(found)


def sample(players, seed=1):
    """A game with worths from -1000 to 1000 that look unlike."""
    return Game(players, {group: (seed * 7919 + k * k * 131 + k * 17) % 2001 - 1000
                          for k, group in enumerate(all_groups(players))})


def example():
    return Game(3, {(0,): 0, (1,): 0, (2,): 0, (0, 1): 4, (0, 2): 3, (1, 2): 2, (0, 1, 2): 6})


class GameCase(unittest.TestCase):
    def assert_game(self, game, players, worths):
        self.assertIsInstance(game, Game)
        self.assertEqual(game.players, players)
        self.assertEqual(game.whole, tuple(range(players)))
        self.assertEqual(list(game), all_groups(players))
        self.assertEqual(game.worths(), worths)
        self.assertEqual({group: game[group] for group in game}, worths)

    def assert_no_group(self, value, call, *arguments):
        with self.subTest(value=value):
            with self.assertRaises(NoGroup) as caught:
                call(*arguments)
            self.assertIs(caught.exception.group, value)

    def assert_no_player(self, value, call, *arguments):
        with self.subTest(value=value, arguments=arguments):
            with self.assertRaises(NoPlayer) as caught:
                call(*arguments)
            self.assertIs(caught.exception.player, value)


class Interface(unittest.TestCase):
    def test_first_lines(self):
        game = example()
        self.assertEqual(
            [groups(2), len(game), game[(0, 2)], game.whole, (2, 0) in game, list(game)[:4]],
            [[(0,), (0, 1), (1,)], 7, 3, (0, 1, 2), False, [(0,), (0, 1), (0, 1, 2), (0, 2)]],
        )

    def test_second_lines(self):
        game = example()
        self.assertEqual(
            [(game + game)[(0, 1)], (-game)[(1, 2)], (game * 3).worths()[(0, 2)], shifted(game, [1, 0, 2])[(0, 2)]],
            [8, -2, 9, 6],
        )

    def test_third_lines(self):
        game = example()
        self.assertEqual(
            [part(game, (0, 2)).worths(), turned(game)[(2,)], put_together(game, 0, 2).worths(),
             renamed(game, [2, 0, 1])[(0, 1)]],
            [{(0,): 0, (0, 1): 3, (1,): 0}, 2, {(0,): 3, (0, 1): 6, (1,): 0}, 3],
        )


class Groups(unittest.TestCase):
    def test_groups(self):
        for players in range(1, 6):
            told = groups(players)
            self.assertIs(type(told), list)
            self.assertEqual(told, all_groups(players))
            self.assertTrue(all(type(group) is tuple for group in told))
        self.assertEqual(groups(1), [(0,)])
        self.assertEqual(groups(players=3), [(0,), (0, 1), (0, 1, 2), (0, 2), (1,), (1, 2), (2,)])

    def test_new_on_each_call(self):
        first = groups(2)
        first.append((9,))
        self.assertEqual(groups(2), [(0,), (0, 1), (1,)])

    def test_bad_players(self):
        for players in NO_PLAYERS:
            with self.subTest(players), self.assertRaises(BadPlayers):
                groups(players)


class Making(GameCase):
    def test_all_numbers_of_players(self):
        for players in range(1, 6):
            worths = {group: len(group) * 10 - group[0] for group in all_groups(players)}
            self.assert_game(Game(players, worths), players, worths)
            self.assertEqual(len(Game(players, worths)), 2 ** players - 1)
            self.assert_game(Game(worths=worths, players=players), players, worths)

    def test_keys_in_any_order(self):
        worths = {(0,): 1, (0, 1): 2, (1,): 3}
        for keys in itertools.permutations(worths):
            game = Game(2, {key: worths[key] for key in keys})
            self.assert_game(game, 2, worths)
            self.assertEqual(list(game.worths()), [(0,), (0, 1), (1,)])

    def test_bad_players_first(self):
        for players in NO_PLAYERS:
            for worths in ({(0,): 1}, {}, None):
                with self.subTest(players), self.assertRaises(BadPlayers):
                    Game(players, worths)

    def test_worths_is_no_dict(self):
        for worths in (None, 0, "", [], [0, 1, 2], (((0,), 1),), [((0,), 1)], example()):
            for players in (1, 3):
                with self.subTest(worths=worths), self.assertRaises(BadWorths):
                    Game(players, worths)

    def test_missing_and_further_keys(self):
        right = example().worths()
        for group in right:
            worths = {key: worth for key, worth in right.items() if key != group}
            with self.subTest(group), self.assertRaises(BadWorths):
                Game(3, worths)
        for key in ((), (3,), (0, 3), (1, 0), (0, 0), "a", 0, None, (0, True, 2, 3)):
            with self.subTest(key), self.assertRaises(BadWorths):
                Game(3, {**right, key: 1})
        for players in (1, 2, 4, 5):
            with self.assertRaises(BadWorths):
                Game(players, right)

    def test_keys_that_only_look_like_groups(self):
        right = example().worths()
        for group, key in (((0,), (False,)), ((1,), (True,)), ((1, 2), (True, 2)), ((1, 2), (2, 1)), ((0,), (0.0,)),
                           ((0, 1), (0, 1.0)), ((2,), 2), ((0,), (0, 0)), ((0, 1), (0, True))):
            worths = {}
            for old, worth in right.items():
                worths[key if old == group else old] = worth
            with self.subTest(key), self.assertRaises(BadWorths):
                Game(3, worths)

    def test_worths_that_are_no_integers(self):
        for worth in (True, False, None, 1.0, "1", (1, 1), [1]):
            for group in all_groups(3):
                with self.subTest(worth=worth), self.assertRaises(BadWorths):
                    Game(3, {**example().worths(), group: worth})

    def test_a_game_never_changes(self):
        worths = example().worths()
        game = Game(3, worths)
        worths[(0, 1)] = 1000
        del worths[(0,)]
        self.assertEqual(game, example())
        told = game.worths()
        told[(0, 1)] = 1000
        told.clear()
        self.assertEqual(game.worths(), example().worths())
        self.assertIsNot(game.worths(), game.worths())
        list(game).clear()
        self.assertEqual(len(game), 7)

    def test_the_dict_that_is_passed_stays(self):
        worths = {(1,): 3, (0, 1): 2, (0,): 1}
        Game(2, worths)
        self.assertEqual(list(worths.items()), [((1,), 3), ((0, 1), 2), ((0,), 1)])


class Asking(GameCase):
    def test_one_player(self):
        self.assert_game(Game(1, {(0,): -5}), 1, {(0,): -5})

    def test_no_group(self):
        for value in NO_GROUPS_OF_THREE:
            self.assert_no_group(value, lambda at: example()[at], value)

    def test_contains(self):
        game = example()
        for group in all_groups(3):
            self.assertIs(group in game, True)
        for value in NO_GROUPS_OF_THREE:
            with self.subTest(value):
                self.assertIs(value in game, False)
        self.assertIs((0,) in Game(1, {(0,): 1}), True)
        self.assertIs((1,) in Game(1, {(0,): 1}), False)
        self.assertIs((0, 1, 2, 3, 4) in sample(5), True)
        self.assertIs((0, 5) in sample(5), False)

    def test_iterations_within_one_another(self):
        game = Game(2, {(0,): 1, (0, 1): 2, (1,): 3})
        self.assertEqual([(one, other) for one in game for other in game],
                         list(itertools.product([(0,), (0, 1), (1,)], repeat=2)))

    def test_equal(self):
        self.assertIs(example() == example(), True)
        self.assertIs(example() != example(), False)
        for group in all_groups(3):
            worths = example().worths()
            worths[group] += 1
            self.assertIs(example() == Game(3, worths), False)
            self.assertIs(example() != Game(3, worths), True)

    def test_unlike_numbers_of_players(self):
        zeros = [Game(players, {group: 0 for group in groups(players)}) for players in range(1, 6)]
        for one, other in itertools.combinations(zeros, 2):
            self.assertIs(one == other, False)

    def test_values_that_are_no_games(self):
        for value in (None, 0, "game", 3, [], {}, example().worths(), list(example()), (3, example().worths())):
            self.assertIs(example() == value, False)
            self.assertIs(value == example(), False)
            self.assertIs(example() != value, True)


class Reckoning(GameCase):
    def test_sum(self):
        for players in range(1, 6):
            one, other = sample(players), sample(players, 5)
            before = copy.deepcopy([one, other])
            self.assert_game(one + other, players, {group: one[group] + other[group] for group in one})
            self.assertEqual([one, other], before)

    def test_sum_of_unlike_games(self):
        for one, other in itertools.permutations(range(1, 6), 2):
            with self.assertRaises(Mismatch):
                sample(one) + sample(other)

    def test_sum_with_another_value(self):
        with self.assertRaises(TypeError):
            example() + 1

    def test_negative(self):
        for players in range(1, 6):
            game = sample(players)
            self.assert_game(-game, players, {group: -game[group] for group in game})
            self.assertEqual(--game, game)

    def test_multiple(self):
        for players in range(1, 6):
            for factor in (0, 1, -1, 3, -7, 10 ** 29):
                game = sample(players)
                self.assert_game(game * factor, players, {group: game[group] * factor for group in game})
                self.assertEqual(game, sample(players))

    def test_results_are_apart_from_the_game(self):
        game = example()
        for made in (game + game, -game, game * 1, shifted(game, [0, 0, 0])):
            self.assertIsNot(made, game)

    def test_additive(self):
        for amounts in ([0], [-7], [1, 2], [5, 0, -3], [1, 10, 100, 1000], [1, -2, 4, -8, 16]):
            worths = {group: sum(amounts[k] for k in group) for group in all_groups(len(amounts))}
            before = list(amounts)
            self.assert_game(additive(amounts), len(amounts), worths)
            self.assert_game(additive(tuple(amounts)), len(amounts), worths)
            self.assert_game(additive(amounts=amounts), len(amounts), worths)
            self.assertEqual(amounts, before)

    def test_additive_with_bad_amounts(self):
        for amounts in ([], (), [1] * 6, [True], [1, False], [1, 2.0], ["1"], [None], [(1, 1)], [[1]], None, 3, "12",
                        {0: 1}, {}, example()):
            with self.subTest(amounts=amounts), self.assertRaises(BadAmounts):
                additive(amounts)

    def test_shifted(self):
        for players in range(1, 6):
            game, amounts = sample(players), [9, -20, 300, 0, 7][:players]
            worths = {group: game[group] + sum(amounts[k] for k in group) for group in game}
            self.assert_game(shifted(game, amounts), players, worths)
            self.assert_game(shifted(amounts=tuple(amounts), game=game), players, worths)
            self.assertEqual(game, sample(players))
            self.assertEqual(amounts, [9, -20, 300, 0, 7][:players])

    def test_shifted_with_bad_amounts(self):
        for amounts in ([], [1], [1, 2], [1, 2, 3, 4], [1, 2, True], [False, 2, 3], [1, 2, 3.0], [1, 2, "3"],
                        [1, 2, None], [1, 2, (3, 1)], None, 3, "123", {0: 1, 1: 2, 2: 3}):
            with self.subTest(amounts=amounts), self.assertRaises(BadAmounts):
                shifted(example(), amounts)


class Parts(GameCase):
    def test_part(self):
        for players in range(1, 6):
            game = sample(players)
            for group in game:
                worths = {small: game[tuple(group[k] for k in small)] for small in all_groups(len(group))}
                self.assert_game(part(game, group), len(group), worths)
            self.assertEqual(part(game=game, group=game.whole), game)
            self.assertEqual(game, sample(players))

    def test_part_of_no_group(self):
        for value in NO_GROUPS_OF_THREE:
            self.assert_no_group(value, part, example(), value)

    def test_turned(self):
        for players in range(1, 6):
            game = sample(players)
            worths = {}
            for group in game:
                others = tuple(k for k in range(players) if k not in group)
                worths[group] = game[game.whole] - (game[others] if others else 0)
            self.assert_game(turned(game), players, worths)
            self.assertEqual(turned(game)[game.whole], game[game.whole])
            self.assertEqual(turned(turned(game)), game)
            self.assertEqual(game, sample(players))
        self.assertEqual(turned(game=Game(1, {(0,): 4})), Game(1, {(0,): 4}))


class PutTogether(GameCase):
    def test_by_hand(self):
        game = sample(4)
        expected = {
            (0,): game[(0,)], (1,): game[(1, 3)], (2,): game[(2,)], (0, 1): game[(0, 1, 3)], (0, 2): game[(0, 2)],
            (1, 2): game[(1, 2, 3)], (0, 1, 2): game[(0, 1, 2, 3)],
        }
        self.assert_game(put_together(game, 1, 3), 3, expected)
        self.assert_game(put_together(game, 3, 1), 3, expected)
        expected = {
            (0,): game[(0, 1)], (1,): game[(2,)], (2,): game[(3,)], (0, 1): game[(0, 1, 2)], (0, 2): game[(0, 1, 3)],
            (1, 2): game[(2, 3)], (0, 1, 2): game[(0, 1, 2, 3)],
        }
        self.assert_game(put_together(game, other=0, one=1), 3, expected)

    def test_all_pairs(self):
        for players in range(2, 6):
            game = sample(players)
            for one, other in itertools.permutations(range(players), 2):
                low, high = sorted((one, other))
                worths = {}
                for group in all_groups(players):
                    if (low in group) == (high in group):
                        new = tuple(k if k < high else k - 1 for k in group if k != high)
                        worths[new] = game[group]
                self.assert_game(put_together(game, one, other), players - 1, worths)
            self.assertEqual(game, sample(players))

    def test_first_player_is_none(self):
        for value in (3, -1, 10 ** 29, True, False, None, "0", 0.0, (0,), [0]):
            for other in (0, 1, 7, None):
                self.assert_no_player(value, put_together, example(), value, other)

    def test_second_player_is_none_or_the_same(self):
        for value in (1, 3, -1, 10 ** 29, True, False, None, "0", 0.0, (0,), [0]):
            self.assert_no_player(value, put_together, example(), 1, value)

    def test_one_player(self):
        for value in (0, 1, -1, True):
            self.assert_no_player(value, put_together, Game(1, {(0,): 1}), 0, value)


class Renamed(GameCase):
    def test_all_orders(self):
        for players in range(1, 6):
            game = sample(players)
            for order in itertools.permutations(range(players)):
                worths = {group: game[tuple(sorted(order[k] for k in group))] for group in all_groups(players)}
                self.assert_game(renamed(game, list(order)), players, worths)
            self.assertEqual(game, sample(players))

    def test_tuple_and_names(self):
        order = [2, 0, 1]
        self.assertEqual(renamed(example(), (2, 0, 1)), renamed(order=order, game=example()))
        self.assertEqual(order, [2, 0, 1])
        self.assertEqual(renamed(example(), [0, 1, 2]), example())

    def test_bad_order(self):
        for order in ([], [0], [0, 1], [0, 1, 1], [0, 0, 0], [0, 1, 3], [1, 2, 3], [-1, 0, 1], [0, 1, 2, 2],
                      [0, 1, 2, 3], [False, True, 2], [0, True, 2], [0.0, 1, 2], [0, 1, "2"], [0, 1, None],
                      [0, 1, (2,)], [[0], 1, 2],
                      None, 3, "012", {0: 0, 1: 1, 2: 2}):
            with self.subTest(order=order), self.assertRaises(BadOrder):
                renamed(example(), order)


if __name__ == "__main__":
    unittest.main()
