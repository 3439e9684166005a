"""Points 4, 5 and 51 to 55: calm divisions, or families that bar them."""

import copy
import itertools
import math
import random
import unittest
from fractions import Fraction

from leastcomplaint.calm import (
    calm_division, calm_to, clash, count_of, family_against, is_family, is_simple, lack, ladder, simple_parts,
)
from leastcomplaint.errors import NoGroup, NotFamily
from leastcomplaint.games import Game
from reckoning import (
    NO_GROUPS_OF_THREE, all_groups, fraction, game_of, greatest_earned, seconds, simple_families, some_games, total,
)

# The simple families of all groups of so many players; for five players it takes long to try all of them.
SIMPLE = {players: simple_families(players, all_groups(players)) for players in range(1, 5)}

NO_FAMILIES_OF_THREE = [
    None, 0, 3, "", "family", [], (), [((0, 1, 2), 1)], {(0, 1, 2)}, {}, {(0,): 1}, {(0, 1): 1, (2,): 2},
    {(0, 1): 1, (1, 2): 1}, {(0,): 1, (1,): 1}, {(0, 1, 2): 0}, {(0, 1, 2): -1}, {(0, 1, 2): True},
    {(0, 1, 2): 1.0}, {(0, 1, 2): "1"}, {(0, 1, 2): None}, {(0, 1, 2): (1, 1)}, {(0, 1, 2): 1, (): 1},
    {(0, 1, 2): 1, (3,): 1}, {(0, 1, 2, 3): 1}, {(2, 1, 0): 1}, {(0, 1): 1, (2,): 1, (0,): 0},
    {(0, 1, 2): 2, (0,): -1, (1,): -1, (2,): -1}, {(False, True, 2): 1}, {(0.0, 1, 2): 1}, {0: 1, 1: 1, 2: 1},
    {"012": 1}, {None: 1}, {(0, 1): 2, (0, 2): 2, (1, 2): 1}, {(0, 1, 2): 1, "a": 1}, {(0, 1, 1, 2): 1},
]


def count_by_hand(players, family):
    """The count of a dict of weights, or None if it is no family."""
    counts = {sum(weight for group, weight in family.items() if k in group) for k in range(players)}
    return counts.pop() if len(counts) == 1 and min(counts) >= 1 else None


def some_families(players, many, seed=1):
    """Families, put together from simple ones and from groups with all others."""
    source = random.Random(seed * 10 + players)
    whole = tuple(range(players))
    found = []
    for _ in range(many):
        family = {}
        for _ in range(source.randint(1, 5)):
            weight = source.choice([1, 2, 3, 6])
            group = source.choice(all_groups(players))
            parts = [group, tuple(k for k in whole if k not in group)]
            if source.random() < 0.4:
                parts = [(*whole[:k], *whole[k + 1:]) for k in whole]
            elif source.random() < 0.3:
                parts = [(k,) for k in whole]
            for one in parts:
                if one:
                    family[one] = family.get(one, 0) + weight
        keys = list(family) or [whole]
        source.shuffle(keys)
        found.append({key: family.get(key, 1) for key in keys})
    return found


class CalmCase(unittest.TestCase):
    def assert_calm(self, game, division, chosen):
        """Point 4: a list of ratios with the sum of the whole, in which none of some groups goes."""
        self.assertIs(type(division), list)
        self.assertEqual(len(division), game.players)
        for one in division:
            self.assertIs(type(one), tuple)
            self.assertEqual([type(number) for number in one], [int, int])
            self.assertEqual([one[1] >= 1, math.gcd(*one)], [True, 1])
        self.assertEqual(total(division, game.whole), game[game.whole])
        for group in chosen:
            self.assertGreaterEqual(total(division, group), game[group])

    def assert_bars(self, game, family, chosen):
        """Point 5: a dict of weights with the same sum for all players that earn more than the whole."""
        self.assertIs(type(family), dict)
        self.assertTrue(set(family) <= set(chosen))
        self.assertTrue(all(type(weight) is int and weight >= 1 for weight in family.values()))
        count = count_by_hand(game.players, family)
        self.assertIsNotNone(count)
        earned = sum(weight * game[group] for group, weight in family.items())
        self.assertGreater(earned, count * game[game.whole])

    def assert_one_of_two(self, game, only, chosen):
        division, family = calm_division(game, only=only), family_against(game, only=only)
        self.assertNotEqual(division is None, family is None)
        if family is None:
            self.assert_calm(game, division, chosen)
        else:
            self.assert_bars(game, family, chosen)
        return division is not None

    def assert_no_group(self, value, call, *arguments, **named):
        with self.subTest(value=value):
            with self.assertRaises(NoGroup) as caught:
                call(*arguments, **named)
            self.assertIs(caught.exception.group, value)


class Interface(unittest.TestCase):
    def setUp(self):
        self.game = Game(3, {(0,): 0, (1,): 0, (2,): 0, (0, 1): 4, (0, 2): 4, (1, 2): 4, (0, 1, 2): 5})

    def test_first_lines(self):
        game = self.game
        self.assertEqual(
            [calm_division(game), is_family(game, family_against(game)), family_against(game, only=[(0, 1), (2,)]),
             calm_to(game)],
            [None, True, None, 1],
        )

    def test_second_lines(self):
        game = self.game
        self.assertEqual(
            [lack(game, {(0, 1): 1, (0, 2): 1, (1, 2): 1}), is_family(game, {(0, 1): 1, (2,): 2}), clash(game)],
            [(1, 1), False, [(0, 1), (0, 2), (1, 2)]],
        )

    def test_third_lines(self):
        game = self.game
        self.assertEqual(
            [is_simple(game, {(0,): 1, (1,): 1, (2,): 1, (0, 1, 2): 1}),
             len(simple_parts(game, {(0, 1): 1, (2,): 2, (0,): 1, (1,): 1}))],
            [False, 2],
        )
        self.assertEqual([division is None for division, family in ladder(game)], [False, True, True])


class OneOfTwo(CalmCase):
    def test_all_groups(self):
        told = []
        for players in range(1, 6):
            for game in some_games(players, 40, 20):
                calm = self.assert_one_of_two(game, None, all_groups(players))
                self.assertEqual(calm, calm_division(game) is not None)
                self.assertEqual(calm, family_against(game) is None)
                if players < 5:
                    self.assertEqual(calm, greatest_earned(game, SIMPLE[players]) <= game[game.whole])
                told.append((players, calm))
        self.assertEqual(set(told), {(1, True), *itertools.product(range(2, 6), (False, True))})

    def test_some_groups(self):
        source = random.Random(51)
        told = []
        for players in range(1, 6):
            for game in some_games(players, 40, 20, seed=2):
                chosen = source.sample(all_groups(players), source.randint(0, 2 ** players - 1))
                calm = self.assert_one_of_two(game, chosen, chosen)
                if players < 5:
                    families = [family for family in SIMPLE[players] if set(family) <= set(chosen)]
                    earned = greatest_earned(game, families)
                    self.assertEqual(calm, earned is None or earned <= game[game.whole])
                told.append((players, calm))
                # Neither the whole, nor groups that stand there twice, nor a tuple, make a difference.
                for only in (chosen + [game.whole], tuple(chosen), chosen + chosen[:3], chosen[::-1]):
                    self.assertEqual(calm_division(game, only=only) is not None, calm)
                    family = family_against(game, only=only)
                    if not calm:
                        self.assert_bars(game, family, chosen)
                self.assertEqual(calm_division(game, only=tuple(chosen)), calm_division(game, only=chosen))
                self.assertEqual(family_against(game, only=tuple(chosen)), family_against(game, only=chosen))
        self.assertTrue(set(told) >= set(itertools.product(range(2, 6), (False, True))))

    def test_no_groups_and_only_the_whole(self):
        for players in range(1, 6):
            for game in some_games(players, 4, 1000):
                for only in ([], (), [game.whole], [game.whole, game.whole]):
                    self.assertIs(self.assert_one_of_two(game, only, []), True)

    def test_groups_that_leave_players_out(self):
        game = game_of(3, 900, 800, -1000, 700, 1000, 600, 500)
        for only in ([(0, 1)], [(0,), (0, 1)], [(0, 1), (0, 2), (0,)], [(1,), (2,), (1, 2)]):
            self.assertIs(self.assert_one_of_two(game, only, only), True)

    def test_one_too_much(self):
        # The whole earns just as much as the others, and then one less.
        for players in range(2, 5):
            for family in SIMPLE[players]:
                if len(family) > 1:
                    unit = math.lcm(*[weight.denominator for weight in family.values()])
                    worths = {group: -1000 for group in all_groups(players)}
                    worths.update({group: unit for group in family})
                    earned = sum(weight * unit for weight in family.values())
                    self.assertEqual(earned.denominator, 1)
                    worths[tuple(range(players))] = int(earned)
                    self.assertIs(self.assert_one_of_two(Game(players, worths), None, all_groups(players)), True)
                    worths[tuple(range(players))] -= 1
                    game = Game(players, worths)
                    self.assertIs(self.assert_one_of_two(game, None, all_groups(players)), False)
                    self.assertEqual(set(family_against(game)), set(family))

    def test_one_player(self):
        for worth in (-5, 0, 7):
            game = game_of(1, worth)
            for only in (None, [], [(0,)], [(0,), (0,)]):
                self.assertEqual(calm_division(game, only=only), [(worth, 1)])
                self.assertIsNone(family_against(game, only=only))

    def test_no_group(self):
        game = game_of(3, 0, 4, 5, 4, 0, 4, 0)
        for call in (calm_division, family_against, clash):
            for value in NO_GROUPS_OF_THREE:
                self.assert_no_group(value, call, game, only=[value])
                self.assert_no_group(value, call, game, only=[(0,), (0, 1, 2), value, (9,), (1, 2)])
            with self.assertRaises(TypeError):
                call(game, [(0,)])

    def test_arguments_stay_and_results_are_new(self):
        for game in some_games(3, 8, 20):
            worths, only = game.worths(), [(1, 2), (0,), (0,), (0, 1), (0, 2), (2,)]
            for call in (calm_division, family_against, clash):
                first, second = call(game, only=only), call(only=only, game=game)
                self.assertEqual(first, second)
                if first is not None:
                    first.clear()
                    self.assertEqual(call(game, only=only), second)
                self.assertEqual(only, [(1, 2), (0,), (0,), (0, 1), (0, 2), (2,)])
            self.assertEqual(game.worths(), worths)

    def test_games_do_not_know_of_one_another(self):
        games = [game for players in range(1, 6) for game in some_games(players, 6, 50)]
        first = [(calm_division(game), family_against(game), clash(game), ladder(game)) for game in games]
        for game, told in reversed(list(zip(games, first))):
            again = Game(game.players, dict(reversed(game.worths().items())))
            self.assertEqual((calm_division(again), family_against(again), clash(again), ladder(again)), told)


class Families(CalmCase):
    def test_is_family(self):
        for players in range(1, 6):
            game = some_games(players, 1, 1000)[0]
            for family in some_families(players, 30):
                self.assertIs(is_family(game, family), True)
                for group in family:
                    for step in (-1, 1, 1000):
                        changed = {**family, group: family[group] + step}
                        expected = changed[group] >= 1 and count_by_hand(players, changed) is not None
                        self.assertIs(is_family(game, changed), expected)
                    fewer = {key: weight for key, weight in family.items() if key != group}
                    self.assertIs(is_family(game, fewer), count_by_hand(players, fewer) is not None)

    def test_no_families(self):
        game = game_of(3, 0, 4, 5, 4, 0, 4, 0)
        for value in [*NO_FAMILIES_OF_THREE, game]:
            with self.subTest(value=value):
                self.assertIs(is_family(game, value), False)
                for call in (count_of, lack, is_simple, simple_parts):
                    with self.assertRaises(NotFamily):
                        call(game, value)
        self.assertIs(is_family(value={(0, 1, 2): 5}, game=game), True)
        self.assertIs(is_family(game_of(1, 0), {(0,): 1}), True)
        self.assertIs(is_family(game_of(1, 0), {}), False)
        self.assertIs(is_family(game_of(2, 0, 0, 0), {(0, 1, 2): 1}), False)

    def test_count_and_lack(self):
        for players in range(1, 6):
            for game in some_games(players, 3, 1000):
                for family in some_families(players, 20):
                    count = count_by_hand(players, family)
                    self.assertEqual(count_of(game, family), count)
                    earned = sum(weight * game[group] for group, weight in family.items())
                    told = lack(game, family)
                    self.assertEqual([type(told), math.gcd(*told), told[1] >= 1], [tuple, 1, True])
                    self.assertEqual(fraction(told), Fraction(earned, count) - game[game.whole])
        game = game_of(2, 1, 3, 1)
        self.assertEqual([count_of(family={(0,): 2, (1,): 2}, game=game), lack(game, {(0,): 2, (1,): 2})], [2, (-1, 1)])

    def test_is_simple(self):
        for players in range(1, 5):
            game = some_games(players, 1, 1000)[0]
            for family in some_families(players, 40):
                inside = [one for one in SIMPLE[players] if set(one) <= set(family)]
                self.assertIs(is_simple(game, family), len(inside) == 1)
            for one in SIMPLE[players]:
                unit = math.lcm(*[weight.denominator for weight in one.values()])
                family = {group: int(weight * unit) for group, weight in one.items()}
                self.assertIs(is_simple(game, family), True)
                self.assertIs(is_simple(game, {group: weight * 6 for group, weight in family.items()}), True)

    def test_is_simple_by_hand(self):
        game = some_games(5, 1, 1000)[0]
        self.assertIs(is_simple(game, {(0, 1, 2, 3, 4): 7}), True)
        self.assertIs(is_simple(game, {(k,): 2 for k in range(5)}), True)
        self.assertIs(is_simple(game, {(0, 1): 1, (0, 2): 1, (0, 3): 1, (0, 4): 1, (1, 2, 3, 4): 3}), True)
        self.assertIs(is_simple(game, {(0, 1): 1, (0, 2): 1, (1, 2): 1, (3, 4): 2}), True)
        # Two ways to part all players.
        self.assertIs(is_simple(game, {(0, 1): 1, (2, 3, 4): 1, (0, 2): 1, (1, 3, 4): 1}), False)
        self.assertIs(is_simple(family={(0,): 1, (1, 2, 3, 4): 1, (0, 1, 2, 3, 4): 1}, game=game), False)
        self.assertIs(is_simple(game, {group: 1 for group in all_groups(5)}), False)

    def assert_parts(self, game, family):
        parts = simple_parts(game, family)
        self.assertIs(type(parts), list)
        self.assertLessEqual(len(parts), len(family))
        sums = {group: Fraction(0) for group in family}
        for part in parts:
            self.assertIs(type(part), tuple)
            share, simple = part
            self.assertGreater(fraction(share), 0)
            self.assertEqual([type(share), math.gcd(*share), share[1] >= 1], [tuple, 1, True])
            self.assertEqual(math.gcd(*simple.values()), 1)
            self.assertIsNotNone(count_by_hand(game.players, simple))
            self.assertIs(is_simple(game, simple), True)
            if game.players < 5:
                self.assertEqual(len([x for x in SIMPLE[game.players] if set(x) <= set(simple)]), 1)
            for group, weight in simple.items():
                self.assertGreaterEqual(weight, 1)
                sums[group] += fraction(share) * weight
        self.assertEqual(sums, family)
        lacks = [fraction(lack(game, simple)) for share, simple in parts]
        self.assertGreaterEqual(max(lacks), fraction(lack(game, family)))
        return parts

    def test_simple_parts(self):
        for players in range(1, 6):
            game = some_games(players, 1, 1000)[0]
            for family in some_families(players, 40, seed=3):
                before = list(family.items())
                parts = self.assert_parts(game, family)
                self.assertEqual(list(family.items()), before)
                self.assertEqual(len(parts) == 1, is_simple(game, family))
                self.assertEqual(simple_parts(game, dict(reversed(before))), parts)
                kept = copy.deepcopy(parts)
                parts[0][1].clear()
                parts.clear()
                self.assertEqual(simple_parts(family=family, game=game), kept)

    def test_parts_of_a_simple_family(self):
        game = some_games(3, 1, 1000)[0]
        family = {(0, 1): 6, (0, 2): 6, (1, 2): 6}
        self.assertEqual(simple_parts(game, family), [((6, 1), {(0, 1): 1, (0, 2): 1, (1, 2): 1})])
        self.assertEqual(simple_parts(game_of(1, 3), {(0,): 4}), [((4, 1), {(0,): 1})])

    def test_great_weights(self):
        game = some_games(5, 1, 1000)[0]
        self.assert_parts(game, {group: 997 for group in all_groups(5)})
        self.assert_parts(game, {(0, 1): 10 ** 40, (2, 3, 4): 10 ** 40, (0,): 7, (1, 2, 3, 4): 7, (0, 1, 2, 3, 4): 1})


class Ladders(CalmCase):
    def test_ladder(self):
        told = []
        for players in range(1, 6):
            for game in some_games(players, 30, 20, seed=4):
                rungs = ladder(game)
                self.assertEqual([type(rungs), len(rungs)], [list, players])
                calm = 0
                for most, rung in enumerate(rungs, 1):
                    chosen = [group for group in all_groups(players) if len(group) <= most]
                    self.assertEqual([type(rung), len(rung)], [tuple, 2])
                    self.assertEqual(rung, (calm_division(game, only=chosen), family_against(game, only=chosen)))
                    self.assertIs(self.assert_one_of_two(game, chosen, chosen), rung[1] is None)
                    calm += rung[1] is None
                self.assertEqual(calm_to(game), calm)
                told.append((players, calm))
                rungs.clear()
                self.assertEqual(len(ladder(game=game)), players)
        self.assertTrue({(3, 0), (3, 1), (3, 3), (4, 0), (4, 1), (4, 2), (4, 4)} <= set(told), set(told))

    def test_calm_to(self):
        self.assertEqual(calm_to(game_of(1, -3)), 1)
        self.assertEqual(calm_to(game_of(2, 1, 1, 1)), 0)
        self.assertEqual(calm_to(game_of(2, 1, 2, 1)), 2)
        worths = {group: 0 for group in all_groups(5)}
        for most in range(1, 5):
            for group in worths:
                worths[group] = 100 * len(group) if len(group) == most else 0
            worths[(0, 1, 2, 3, 4)] = 499
            self.assertEqual(calm_to(game=Game(5, worths)), most - 1)
            worths[(0, 1, 2, 3, 4)] = 500
            self.assertEqual(calm_to(Game(5, worths)), 5)

    def test_the_whole_is_no_step(self):
        for players in range(2, 6):
            for game in some_games(players, 30, 20, seed=5):
                self.assertNotEqual(calm_to(game), players - 1)


class Clashes(CalmCase):
    def clash_by_trying(self, game, chosen):
        def is_calm(groups):
            families = [family for family in SIMPLE[game.players] if set(family) <= set(groups)]
            earned = greatest_earned(game, families)
            return earned is None or earned <= game[game.whole]

        kept = sorted(set(chosen))
        if is_calm(kept):
            return None
        for group in reversed(list(kept)):
            fewer = [one for one in kept if one != group]
            if not is_calm(fewer):
                kept = fewer
        return kept

    def test_by_trying(self):
        source = random.Random(55)
        found = 0
        for players in range(1, 5):
            for game in some_games(players, 24, 20, seed=6):
                self.assertEqual(clash(game), self.clash_by_trying(game, all_groups(players)))
                chosen = source.sample(all_groups(players), source.randint(0, 2 ** players - 1))
                told = clash(game, only=chosen)
                self.assertEqual(told, self.clash_by_trying(game, chosen))
                self.assertEqual(clash(game, only=tuple(chosen + chosen[:2])), told)
                self.assertEqual(clash(game, only=chosen[::-1] + [game.whole]), told)
                found += told is not None
        self.assertGreater(found, 10)

    def test_five_players(self):
        found = 0
        for game in some_games(5, 20, 20, seed=7):
            told = clash(game)
            self.assertEqual(told is None, calm_division(game) is not None)
            if told is not None:
                found += 1
                self.assertEqual([type(told), told], [list, sorted(set(told))])
                self.assertIsNone(calm_division(game, only=told))
                for group in told:
                    others = [other for other in told if other != group]
                    self.assert_calm(game, calm_division(game, only=others), others)
                family = family_against(game, only=told)
                self.assert_bars(game, family, told)
                self.assertEqual(sorted(family), told)
                self.assertIs(is_simple(game, family), True)
        self.assertGreater(found, 5)

    def test_goes_from_the_last_one_to_the_first_one(self):
        self.assertEqual(clash(game_of(3, 9, 9, 9, 9, 9, 9, 9)), [(0, 2), (1,)])
        worths = {group: 5 if len(group) == 2 else 0 for group in all_groups(4)}
        self.assertEqual(clash(Game(4, worths)), [(0, 1, 3), (0, 2, 3), (1, 2)])
        self.assertEqual(clash(Game(4, worths), only=[(0, 1), (0, 2), (0, 3), (1, 2), (1, 3), (2, 3)]), [(0, 3), (1, 2)])

    def test_none(self):
        self.assertIsNone(clash(game_of(1, 5)))
        self.assertIsNone(clash(game_of(3, 9, 9, 9, 9, 9, 9, 9), only=[]))
        self.assertIsNone(clash(game_of(3, 9, 9, 9, 9, 9, 9, 9), only=[(0, 1, 2), (0, 1), (0, 2)]))
        self.assertEqual(clash(game_of(3, 9, 9, 9, 9, 9, 9, 9), only=[(2,), (0, 1, 2), (0, 1), (2,)]), [(0, 1), (2,)])


class Times(CalmCase):
    def test_great_worths_in_time(self):
        for game in some_games(5, 6, 10 ** 30, seed=8):
            for call in (calm_division, family_against, clash, calm_to, ladder):
                self.assertLess(seconds(call, game), 3)
            self.assert_one_of_two(game, None, all_groups(5))


if __name__ == "__main__":
    unittest.main()
