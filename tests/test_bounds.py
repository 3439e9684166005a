"""Points 4, 5 and 61 to 64: how much is needed, and how much groups get in calm divisions."""

import copy
import itertools
import math
import random
import unittest
from fractions import Fraction

from leastcomplaint.bounds import (
    floor_weights, greatest_amount, greatest_for, is_tight, least_amount, least_for, lowest_amounts, need_family,
    needed, shows_floor, tight,
)
from leastcomplaint.calm import calm_division, family_against
from leastcomplaint.errors import NoGroup
from leastcomplaint.games import Game, additive
from reckoning import (
    LONG, NO_GROUPS_OF_THREE, all_corners, all_groups, as_ratio, fraction, game_of, greatest_earned, seconds,
    simple_families, some_games, total,
)
from samples import calm_games

# The simple families of groups other than the whole; for five players it takes long to try all sets of groups.
SIMPLE = {players: simple_families(players, [x for x in all_groups(players) if len(x) < players])
          for players in range(1, 5)}
OF_GROUPS = (least_amount, greatest_amount, least_for, greatest_for, floor_weights)


def rich():
    return game_of(3, 0, 4, 7, 4, 0, 4, 0)


def poor():
    return game_of(3, 0, 4, 5, 4, 0, 4, 0)


def is_floor(game, group, value, told):
    """What point 63 says of the evidence that no calm division gives a group less than a value."""
    scale, weights, whole = told
    if scale < 1 or any(key not in all_groups(game.players) or key == game.whole for key in weights):
        return False
    if any(weight < 1 for weight in weights.values()):
        return False
    for k in range(game.players):
        if sum(weight for key, weight in weights.items() if k in key) + whole != (scale if k in group else 0):
            return False
    earned = sum(weight * game[key] for key, weight in weights.items()) + whole * game[game.whole]
    return earned >= scale * fraction(value)


class BoundCase(unittest.TestCase):
    def assert_ratio(self, told):
        self.assertIs(type(told), tuple)
        self.assertEqual([type(number) for number in told], [int, int])
        self.assertEqual([told[1] >= 1, math.gcd(*told)], [True, 1])

    def assert_amounts(self, game, amounts, chosen, end):
        """Ratios with a sum in which no group of some groups has less than its worth."""
        self.assertEqual([type(amounts), len(amounts)], [list, game.players])
        for one in amounts:
            self.assert_ratio(one)
        self.assertEqual(total(amounts, game.whole), end)
        for group in chosen:
            if group != game.whole:
                self.assertGreaterEqual(total(amounts, group), game[group])

    def assert_calm(self, game, division):
        self.assert_amounts(game, division, all_groups(game.players), game[game.whole])

    def assert_needed(self, game, only, chosen):
        """The least sum is shown by amounts with this sum, and by a family of the groups that earns so much."""
        told = needed(game, only=only)
        amounts, family = lowest_amounts(game, only=only), need_family(game, only=only)
        if told is None:
            self.assertEqual([amounts, family], [None, None])
            return None
        self.assert_ratio(told)
        end = game[game.whole] + fraction(told)
        self.assert_amounts(game, amounts, chosen, end)
        self.assertIs(type(family), dict)
        self.assertTrue(set(family) <= {group for group in chosen if group != game.whole})
        self.assertTrue(all(type(weight) is int and weight >= 1 for weight in family.values()))
        self.assertEqual(math.gcd(*family.values()), 1)
        counts = {sum(weight for group, weight in family.items() if k in group) for k in range(game.players)}
        self.assertEqual([len(counts), min(counts) >= 1], [1, True])
        self.assertEqual(sum(weight * game[group] for group, weight in family.items()), min(counts) * end)
        return fraction(told)

    def assert_no_group(self, value, call, *arguments, **named):
        with self.subTest(value=value):
            with self.assertRaises(NoGroup) as caught:
                call(*arguments, **named)
            self.assertIs(caught.exception.group, value)


class Interface(unittest.TestCase):
    def test_first_lines(self):
        game = poor()
        self.assertEqual(
            [needed(game), lowest_amounts(game), need_family(game) == {(0, 1): 1, (0, 2): 1, (1, 2): 1},
             needed(game, only=[(0, 1)])],
            [(1, 1), [(2, 1), (2, 1), (2, 1)], True, None],
        )

    def test_second_lines(self):
        self.assertEqual(
            [needed(rich()), least_amount(rich(), (0,)), greatest_amount(rich(), (0,)), tight(rich())[(0, 1)],
             is_tight(rich()), tight(poor())],
            [(-1, 1), (1, 1), (3, 1), (4, 1), False, None],
        )

    def test_third_lines(self):
        told = (1, {(0, 1): 1, (0, 2): 1}, -1)
        self.assertEqual(
            [least_for(rich(), (0,)), floor_weights(rich(), (0,)) == told, shows_floor(rich(), (0,), (1, 1), told)],
            [[(1, 1), (3, 1), (3, 1)], True, True],
        )


class Needed(BoundCase):
    def test_all_groups(self):
        signs = set()
        for players in range(1, 6):
            for game in some_games(players, 30, 20, seed=61):
                told = self.assert_needed(game, None, all_groups(players))
                if players == 1:
                    self.assertIsNone(told)
                    continue
                if players < 5:
                    self.assertEqual(told, greatest_earned(game, SIMPLE[players]) - game[game.whole])
                self.assertEqual(calm_division(game) is not None, told <= 0)
                signs.add((players, (told > 0) - (told < 0)))
                self.assertEqual(needed(game, only=all_groups(players)), needed(game=game))
        self.assertTrue(signs >= set(itertools.product(range(2, 6), (-1, 1))))

    def test_some_groups(self):
        source = random.Random(61)
        kinds = set()
        for players in range(1, 6):
            for game in some_games(players, 40, 20, seed=62):
                chosen = source.sample(all_groups(players), source.randint(0, min(9, 2 ** players - 1)))
                told = self.assert_needed(game, chosen, chosen)
                families = simple_families(players, [group for group in chosen if len(group) < players])
                earned = greatest_earned(game, families)
                self.assertEqual(told, None if earned is None else earned - game[game.whole])
                calm = calm_division(game, only=chosen) is not None
                self.assertEqual(calm, told is None or told <= 0)
                kinds.add((players, told is None, calm))
                # Neither the whole, nor groups that stand there twice, nor a tuple, nor their order, make a difference.
                for only in (chosen + [game.whole], tuple(chosen), chosen + chosen[:3], chosen[::-1]):
                    for call in (needed, lowest_amounts, need_family):
                        self.assertEqual(call(game, only=only), call(game, only=chosen))
        for players in range(3, 6):
            self.assertTrue({(players, True, True), (players, False, True)} <= kinds)

    def test_after_adding_it(self):
        for players in range(2, 6):
            for game in some_games(players, 10, 50, seed=63):
                lack = needed(game)
                worths = {group: worth * lack[1] for group, worth in game.worths().items()}
                worths[game.whole] += lack[0]
                self.assertEqual(needed(Game(players, worths)), (0, 1))
                self.assertIsNotNone(calm_division(Game(players, worths)))
                worths[game.whole] -= 1
                self.assertEqual(needed(Game(players, worths)), (1, 1))
                self.assertIsNotNone(family_against(Game(players, worths)))

    def test_no_least_ratio(self):
        for call in (needed, lowest_amounts, need_family):
            for worth in (-7, 0, 1000):
                for only in (None, [], [(0,)]):
                    self.assertIsNone(call(game_of(1, worth), only=only))
            for only in ([], [(0, 1, 2)], [(0, 1)], [(0,), (1,)], [(0, 1), (0, 2)], [(0, 1), (0, 2), (0,)],
                         [(0, 1), (1,), (0, 1, 2)]):
                self.assertIsNone(call(rich(), only=only))
            for only in ([(0,), (1,), (2,)], [(0, 1), (2,)], [(0, 1), (0, 2), (1, 2)]):
                self.assertIsNotNone(call(rich(), only=only))

    def test_by_hand(self):
        self.assertEqual(needed(game_of(2, 3, 4, 2)), (1, 1))
        self.assertEqual(lowest_amounts(game_of(2, 3, 4, 2)), [(3, 1), (2, 1)])
        self.assertEqual(need_family(game_of(2, 3, 4, 2)), {(0,): 1, (1,): 1})
        self.assertEqual(needed(game_of(3, 0, 5, 0, 4, 0, 4, 0)), (13, 2))
        self.assertEqual(lowest_amounts(game_of(3, 0, 5, 0, 4, 0, 4, 0)), [(5, 2), (5, 2), (3, 2)])
        self.assertEqual(needed(game_of(2, -3, 1, -2), only=((1,), (0,))), (-6, 1))

    def test_no_group(self):
        for call in (needed, lowest_amounts, need_family):
            for value in NO_GROUPS_OF_THREE:
                self.assert_no_group(value, call, poor(), only=[value])
                self.assert_no_group(value, call, poor(), only=[(0,), (0, 1, 2), value, (9,), (1, 2)])
            with self.assertRaises(TypeError):
                call(poor(), [(0,)])


class Floors(BoundCase):
    def assert_bounds(self, game, group):
        """The least amount is shown by a calm division with it, and by weights; the greatest one by those of others."""
        low, high = least_amount(game, group), greatest_amount(game, group)
        self.assert_ratio(low)
        self.assert_ratio(high)
        for amount, division in ((low, least_for(game, group)), (high, greatest_for(game, group))):
            self.assert_calm(game, division)
            self.assertEqual(total(division, group), fraction(amount))
        told = floor_weights(game, group)
        self.assert_evidence(game, group, low, told)
        others = tuple(k for k in game.whole if k not in group)
        if others:
            top = game[game.whole] - fraction(high)
            self.assertTrue(is_floor(game, others, as_ratio(top), floor_weights(game, others)))
        else:
            self.assertEqual([low, high], [(game[game.whole], 1)] * 2)
        return low, high

    def assert_evidence(self, game, group, low, told):
        self.assertEqual([type(told), len(told)], [tuple, 3])
        scale, weights, whole = told
        self.assertEqual([type(scale), type(weights), type(whole)], [int, dict, int])
        self.assertTrue(all(type(weight) is int for weight in weights.values()))
        self.assertEqual(math.gcd(scale, *weights.values(), whole), 1)
        self.assertTrue(is_floor(game, group, low, told))
        self.assertIs(shows_floor(game, group, low, told), True)
        more = as_ratio(fraction(low) + Fraction(1, LONG))
        self.assertFalse(is_floor(game, group, more, told))
        self.assertIs(shows_floor(game, group, more, told), False)

    def test_calm_games(self):
        single = 0
        for players in range(1, 6):
            for game in calm_games(players, 10 if players == 5 else 20, 20, 64):
                corners = all_corners(game) if players < 5 else []
                for group in all_groups(players):
                    low, high = self.assert_bounds(game, group)
                    if players < 5:
                        amounts = [sum(corner[k] for k in group) for corner in corners]
                        self.assertEqual([fraction(low), fraction(high)], [min(amounts), max(amounts)])
                single += players > 2 and len(corners) > 0 and all(corner == corners[0] for corner in corners)
        self.assertGreater(single, 3)

    def test_barred_games(self):
        barred = 0
        for players in range(2, 6):
            for game in some_games(players, 12, 20, seed=65):
                if calm_division(game) is None:
                    barred += 1
                    for group in all_groups(players):
                        self.assertEqual([call(game, group) for call in OF_GROUPS], [None] * 5)
                    self.assertIsNone(tight(game))
                    self.assertIs(is_tight(game), False)
        self.assertGreater(barred, 15)

    def test_one_player(self):
        for worth in (-4, 0, 9):
            game = game_of(1, worth)
            self.assertEqual([call(game, (0,)) for call in OF_GROUPS],
                             [(worth, 1), (worth, 1), [(worth, 1)], [(worth, 1)], (1, {}, 1)])
            self.assertIs(shows_floor(game, (0,), (worth, 1), (1, {}, 1)), True)
            self.assertIs(shows_floor(game, (0,), (worth + 1, 1), (1, {}, 1)), False)
            self.assertEqual(tight(game), {(0,): (worth, 1)})
            self.assertIs(is_tight(game), True)

    def test_just_one_calm_division(self):
        game = game_of(3, 0, 4, 6, 4, 0, 4, 0)
        for group in all_groups(3):
            amount = (2 * len(group), 1)
            self.assertEqual([call(game, group) for call in OF_GROUPS[:4]],
                             [amount, amount, [(2, 1)] * 3, [(2, 1)] * 3])

    def test_amounts_that_are_no_integers(self):
        worths = {group: 3 if group in ((0, 1), (0, 2), (1, 2)) else 0 for group in all_groups(4)}
        game = Game(4, {**worths, (0, 1, 2, 3): 5})
        for group in all_groups(4):
            self.assert_bounds(game, group)
        self.assertEqual([least_amount(game, (0, 1, 2)), greatest_amount(game, (3,))], [(9, 2), (1, 2)])
        self.assertEqual(least_for(game, (0, 1, 2)), [(3, 2), (3, 2), (3, 2), (1, 2)])
        self.assertEqual(floor_weights(game, (0, 1, 2)), (2, {(0, 1): 1, (0, 2): 1, (1, 2): 1}, 0))

    def test_by_hand(self):
        game = game_of(2, 1, 10, 3)
        self.assertEqual([least_amount(game, (0,)), greatest_amount(game, (0,))], [(1, 1), (7, 1)])
        self.assertEqual([least_for(game, (1,)), greatest_for(game, (1,))], [[(7, 1), (3, 1)], [(1, 1), (9, 1)]])
        self.assertEqual([floor_weights(game, (0,)), floor_weights(game, (0, 1))], [(1, {(0,): 1}, 0), (1, {}, 1)])
        self.assertEqual(least_amount(group=(0,), game=game), greatest_amount(group=(0,), game=additive([1, 5])))
        self.assertEqual(least_for(group=(0,), game=game), greatest_for(group=(1,), game=game))
        self.assertEqual(floor_weights(group=(0,), game=game), floor_weights(game, (0,)))

    def test_no_group(self):
        for game in (rich(), poor()):
            for call in OF_GROUPS:
                for value in NO_GROUPS_OF_THREE:
                    self.assert_no_group(value, call, game, value)
            for value in NO_GROUPS_OF_THREE:
                for told in ((1, {(0,): 1}, 0), (0, {}, 0), (1, {(7,): 1}, 0)):
                    self.assert_no_group(value, shows_floor, game, value, (0, 1), told)


class Shown(BoundCase):
    def test_changed_evidence(self):
        for players in range(1, 6):
            for game in calm_games(players, 4, 20, 66):
                for group in all_groups(players)[::3]:
                    told, low = floor_weights(game, group), least_amount(game, group)
                    scale, weights, whole = told
                    changed = [(scale + step, weights, whole) for step in (-scale, -1, 1, -2 * scale)]
                    changed += [(scale, weights, whole + step) for step in (-1, 1, -2 * whole)]
                    changed += [(scale, {**weights, key: weights.get(key, 0) + step}, whole)
                                for key in game for step in (-1, 1)]
                    changed += [(scale, {**weights, game.whole: 1}, whole - 1)]
                    changed += [(scale, {**weights, key: 1}, whole) for key in ((), (players,), (1, 0), (0, 0), (-1,))]
                    for factor in (2, 9, -1, 0):
                        changed.append((scale * factor, {key: weight * factor for key, weight in weights.items()},
                                        whole * factor))
                    for other in [told, *changed]:
                        for value in (low, as_ratio(fraction(low) - 1), as_ratio(fraction(low) + 1)):
                            expected = is_floor(game, group, value, other)
                            self.assertIs(shows_floor(game, group, value, other), expected, other)
                    self.assertIs(shows_floor(game, group, low, changed[-4]), True)

    def test_weaker_evidence(self):
        self.assertIs(shows_floor(rich(), (0,), (0, 1), (1, {(0,): 1}, 0)), True)
        self.assertIs(shows_floor(rich(), (0,), (1, LONG), (1, {(0,): 1}, 0)), False)
        self.assertIs(shows_floor(rich(), (0,), (1, 2), (2, {(0,): 1, (0, 1): 1, (0, 2): 1}, -1)), True)
        self.assertIs(shows_floor(rich(), (0,), (1, 1), (2, {(0,): 1, (0, 1): 1, (0, 2): 1}, -1)), False)
        self.assertIs(shows_floor(rich(), (0, 1), (1, 1), (1, {(0, 1): 1, (0, 2): 1}, -1)), False)
        # A barred game has evidence for any value.
        self.assertIs(shows_floor(poor(), (0,), (1999, 1), (1, {(0, 1): 999, (0, 2): 999, (1, 2): 998}, -1997)), True)
        self.assertIs(shows_floor(poor(), (0,), (2000, 1), (1, {(0, 1): 999, (0, 2): 999, (1, 2): 998}, -1997)), False)

    def test_other_values(self):
        weights = {(0, 1): 1, (0, 2): 1}
        for told in (None, 1, "", (), (1,), (1, weights), (1, weights, -1, 0), [1, weights, -1], {}, (weights, 1, -1),
                     (True, weights, -1), (1.0, weights, -1), (None, weights, -1), (1, weights, None),
                     (1, weights, -1.0), (1, [(0, 1), (0, 2)], -1), (1, None, -1), (1, {(0, 1): True, (0, 2): 1}, -1),
                     (1, {(0, 1): 1.0, (0, 2): 1}, -1), (1, {**weights, "a": 1}, -1), (1, {**weights, 0: 1}, -1)):
            self.assertIs(shows_floor(rich(), (0,), (1, 1), told), False, told)
        self.assertIs(shows_floor(rich(), (0,), (1, 1), (1, weights, -1)), True)
        self.assertIs(shows_floor(additive([2, 3]), (0, 1), (5, 1), (1, {}, True)), False)
        self.assertIs(shows_floor(additive([2, 3]), (0, 1), (5, 1), (1, {}, 1)), True)

    def test_names_and_order_of_keys(self):
        told = (1, {(0, 2): 1, (0, 1): 1}, -1)
        self.assertIs(shows_floor(told=told, value=(1, 1), group=(0,), game=rich()), True)
        self.assertEqual(told, (1, {(0, 2): 1, (0, 1): 1}, -1))

    def test_great_numbers(self):
        told = (LONG, {(0, 1): LONG, (0, 2): LONG}, -LONG)
        self.assertIs(shows_floor(rich(), (0,), (1, 1), told), True)
        self.assertIs(shows_floor(rich(), (0,), (LONG - 1, LONG), told), True)
        self.assertIs(shows_floor(rich(), (0,), (LONG, LONG - 1), told), False)


class Tight(BoundCase):
    def test_least_amounts(self):
        for players in range(1, 6):
            for game in calm_games(players, 6, 30, 67):
                told = tight(game)
                self.assertEqual([type(told), set(told)], [dict, set(all_groups(players))])
                corners = all_corners(game) if players < 5 else []
                for group in all_groups(players):
                    self.assertEqual(told[group], least_amount(game, group))
                    if players < 5:
                        low = min(sum(corner[k] for k in group) for corner in corners)
                        self.assertEqual(fraction(told[group]), low)
                is_same = all(told[group] == (game[group], 1) for group in told)
                self.assertIs(is_tight(game), is_same)
                told.clear()
                self.assertEqual(len(tight(game=game)), 2 ** players - 1)
                # The game of the tight amounts is tight.
                unit = math.lcm(*[one[1] for one in tight(game).values()])
                made = Game(players, {group: one[0] * (unit // one[1]) for group, one in tight(game).items()})
                self.assertIs(is_tight(game=made), True)

    def test_is_tight(self):
        self.assertIs(is_tight(game_of(3, 1, 4, 7, 4, 1, 4, 1)), True)
        self.assertIs(is_tight(game_of(3, 1, 4, 7, 4, 1, 4, 0)), False)
        self.assertIs(is_tight(poor()), False)
        self.assertIs(is_tight(additive([3, -4, 5, 0, 1])), True)
        self.assertIs(is_tight(Game(5, {group: len(group) ** 2 for group in all_groups(5)})), True)


class Everywhere(BoundCase):
    def answers(self, game):
        told = [call(game) for call in (needed, lowest_amounts, need_family, tight, is_tight)]
        return told + [call(game, group) for call in OF_GROUPS for group in game]

    def test_arguments_stay_and_results_are_new(self):
        for game in (rich(), poor(), *some_games(4, 4, 20)):
            worths = game.worths()
            first, second = self.answers(game), self.answers(game)
            kept = copy.deepcopy(second)
            self.assertEqual(first, second)
            for one in first:
                if isinstance(one, tuple) and len(one) == 3:
                    one[1].clear()
                elif isinstance(one, (list, dict)):
                    one.clear()
            self.assertEqual(second, kept)
            self.assertEqual(self.answers(game), kept)
            self.assertEqual(game.worths(), worths)
            only = [(1, 2), (0,), (0,), (0, 1, 2), (0, 2), (0, 1)]
            for call in (needed, lowest_amounts, need_family):
                call(game, only=only)
            self.assertEqual(only, [(1, 2), (0,), (0,), (0, 1, 2), (0, 2), (0, 1)])

    def test_games_do_not_know_of_one_another(self):
        games = [game for players in range(1, 5) for game in some_games(players, 4, 50)]
        first = [self.answers(game) for game in games]
        for game, told in reversed(list(zip(games, first))):
            self.assertEqual(self.answers(Game(game.players, dict(reversed(game.worths().items())))), told)

    def test_great_worths_in_time(self):
        for game in [*some_games(5, 2, 10 ** 30, seed=68), *calm_games(5, 4, 10 ** 30, 68)]:
            for call in (needed, lowest_amounts, need_family, tight, is_tight):
                self.assertLess(seconds(call, game), 5)
            for call in OF_GROUPS:
                self.assertLess(seconds(call, game, (0, 2)), 3)
            self.assert_needed(game, None, all_groups(5))
            if calm_division(game) is not None:
                low, division = least_amount(game, (1, 3)), least_for(game, (1, 3))
                self.assert_calm(game, division)
                self.assertEqual(total(division, (1, 3)), fraction(low))
                self.assertTrue(is_floor(game, (1, 3), low, floor_weights(game, (1, 3))))


if __name__ == "__main__":
    unittest.main()
