"""Points 4, 6, 31, 32 and 33: divisions and the complaints about them."""

import copy
import itertools
import math
import unittest
from fractions import Fraction

from leastcomplaint.divisions import (
    amount, blended, complaint, complaint_list, complaints, even_division, going, is_calm, is_division, list_order,
)
from leastcomplaint.errors import BadShares, Mismatch, NoGroup, NotDivision
from leastcomplaint.games import Game, groups
from reckoning import (
    LONG, NO_DIVISIONS_OF_FIVE, NO_GROUPS_OF_THREE, all_groups, as_ratio, fraction, game_of, some_games, total,
)

NO_RATIOS = [(2, 4), (0, 2), (1, 0), (1, -1), (-1, -2), (True, 1), (1, True), (1,), (), (1, 1, 1), (1.0, 1), ("1", 1),
             [1, 1], 1, None, "11", True]


def example():
    return Game(3, dict(zip(groups(3), [0, 4, 5, 4, 0, 4, 0])))


def half():
    return [(2, 1), (2, 1), (1, 1)]


def divisions_of(game):
    """Some divisions of a game, of unlike ratios."""
    found = []
    for seed in range(4):
        amounts = [Fraction((seed * 31 + k * 17) % 41 - 20, (seed * 5 + k * 3) % 7 + 1) for k in range(game.players)]
        amounts[seed % game.players] += game[game.whole] - sum(amounts)
        found.append([as_ratio(one) for one in amounts])
    return found


class DivisionCase(unittest.TestCase):
    def assert_ratio(self, told, expected):
        self.assertIs(type(told), tuple)
        self.assertEqual([type(number) for number in told], [int, int])
        self.assertGreaterEqual(told[1], 1)
        self.assertEqual(math.gcd(told[0], told[1]), 1)
        self.assertEqual(fraction(told), expected)

    def assert_no_group(self, value, call, *arguments, **named):
        with self.subTest(value=value):
            with self.assertRaises(NoGroup) as caught:
                call(*arguments, **named)
            self.assertIs(caught.exception.group, value)


class Interface(unittest.TestCase):
    def test_first_lines(self):
        game = example()
        self.assertEqual(
            [even_division(game), amount(half(), (0, 2)), complaint(game, half(), (1, 2)),
             complaint_list(game, half())],
            [[(5, 3), (5, 3), (5, 3)], (3, 1), (1, 1), [(1, 1), (1, 1), (0, 1), (-1, 1), (-2, 1), (-2, 1)]],
        )

    def test_second_lines(self):
        game = example()
        self.assertEqual(
            [going(game, half()), is_calm(game, half()), is_calm(game, half(), only=[(0,), (0, 1)]),
             is_division(game, [(5, 1)])],
            [[(0, 2), (1, 2)], False, True, False],
        )

    def test_third_lines(self):
        self.assertEqual(
            [blended([half(), even_division(example())], [1, 1]),
             list_order([(1, 2), (3, 1)], [(1, 2), (5, 2)])],
            [[(11, 6), (11, 6), (4, 3)], 1],
        )


class Amounts(DivisionCase):
    def test_sums(self):
        for players in range(1, 6):
            for game in some_games(players, 4, 1000):
                for division in divisions_of(game):
                    before = list(division)
                    for group in all_groups(players):
                        self.assert_ratio(amount(division, group), total(division, group))
                        self.assertEqual(amount(tuple(division), group), amount(division, group))
                    self.assertEqual(division, before)

    def test_any_sum_will_do(self):
        self.assertEqual(amount([(1, 2), (1, 3), (-5, 6)], (0, 1, 2)), (0, 1))
        self.assertEqual(amount([(LONG, 3), (1, LONG)], (0, 1)), as_ratio(Fraction(LONG, 3) + Fraction(1, LONG)))
        self.assertEqual(amount(group=(0,), division=[(7, 2)]), (7, 2))

    def test_not_one_to_five_ratios(self):
        for value in [None, 3, "", "ab", {}, {0: (1, 1)}, [], (), [(1, 1)] * 6, (1, 1)] + [[one] for one in NO_RATIOS]:
            for group in ((0,), (9,), None):
                with self.subTest(value=value), self.assertRaises(NotDivision):
                    amount(value, group)
        for one in NO_RATIOS:
            with self.subTest(one=one), self.assertRaises(NotDivision):
                amount([(1, 1), one, (1, 2)], (0,))

    def test_no_group(self):
        for value in NO_GROUPS_OF_THREE:
            self.assert_no_group(value, amount, half(), value)
        self.assert_no_group((2,), amount, [(1, 1), (2, 1)], (2,))

    def test_is_division(self):
        for players in range(1, 6):
            for game in some_games(players, 4, 1000):
                for division in divisions_of(game):
                    self.assertIs(is_division(game, division), True)
                    self.assertIs(is_division(value=tuple(division), game=game), True)
                    for k in range(players):
                        changed = list(division)
                        changed[k] = as_ratio(fraction(changed[k]) + Fraction(1, LONG))
                        self.assertIs(is_division(game, changed), False)
                    self.assertIs(is_division(game, division[1:]), False)
                    self.assertIs(is_division(game, [*division, (0, 1)]), False)

    def test_no_divisions(self):
        for value in [*NO_DIVISIONS_OF_FIVE, example(), object()]:
            with self.subTest(value=value):
                self.assertIs(is_division(example(), value), False)
        for one in NO_RATIOS:
            with self.subTest(one=one):
                self.assertIs(is_division(example(), [(4, 1), (1, 1), one]), False)
                self.assertIs(is_division(example(), [one, (4, 1), (1, 1)]), False)
        self.assertIs(is_division(example(), [(4, 1), (1, 1), (0, 1)]), True)
        self.assertIs(is_division(game_of(1, 0), [(0, 1)]), True)
        self.assertIs(is_division(game_of(1, 0), []), False)


class Complaints(DivisionCase):
    def test_worths_minus_amounts(self):
        for players in range(1, 6):
            for game in some_games(players, 4, 1000):
                for division in divisions_of(game):
                    expected = {group: game[group] - total(division, group) for group in all_groups(players)}
                    told = complaints(game, division)
                    self.assertIs(type(told), dict)
                    self.assertEqual(set(told), set(expected))
                    for group in expected:
                        self.assert_ratio(told[group], expected[group])
                        self.assert_ratio(complaint(game, division, group), expected[group])
                    self.assertEqual(told[game.whole], (0, 1))
                    del expected[game.whole]
                    rows = complaint_list(game, division)
                    self.assertIs(type(rows), list)
                    self.assertEqual([fraction(one) for one in rows], sorted(expected.values(), reverse=True))
                    for one in rows:
                        self.assert_ratio(one, fraction(one))
                    self.assertEqual(going(game, division), sorted(x for x in expected if expected[x] > 0))

    def test_one_player(self):
        game = game_of(1, -4)
        self.assertEqual(complaint_list(game, [(-4, 1)]), [])
        self.assertEqual(complaints(game, [(-4, 1)]), {(0,): (0, 1)})
        self.assertEqual(going(game, [(-4, 1)]), [])
        self.assertIs(is_calm(game, [(-4, 1)]), True)

    def test_sizes_of_ratios_count(self):
        game = game_of(2, 0, 1, 0)
        self.assertEqual(complaint_list(game, [(1, 3), (2, 3)]), [(-1, 3), (-2, 3)])
        game = game_of(2, 10, 20, 11)
        self.assertEqual(complaint_list(game, [(31, 2), (9, 2)]), [(13, 2), (-11, 2)])
        self.assertEqual(complaint_list(game, [(9, 1), (11, 1)]), [(1, 1), (0, 1)])

    def test_calm(self):
        for players in range(1, 6):
            for game in some_games(players, 8, 30):
                for division in [*divisions_of(game), even_division(game)]:
                    go = [group for group in game if total(division, group) < game[group]]
                    self.assertIs(is_calm(game, division), not go)
                    self.assertIs(is_calm(game, division, only=None), not go)
                    self.assertIs(is_calm(game, division, only=[]), True)
                    self.assertIs(is_calm(game, division, only=[game.whole]), True)
                    for group in game:
                        self.assertIs(is_calm(game, division, only=[group]), group not in go)
                        self.assertIs(is_calm(game, division, only=(game.whole, group, group)), group not in go)
                    calm = [group for group in game if group not in go]
                    self.assertIs(is_calm(only=calm, division=division, game=game), True)
                    if go:
                        self.assertIs(is_calm(game, division, only=calm + go[-1:]), False)

    def test_complaint_of_zero_does_not_go(self):
        game = game_of(2, 1, 3, 2)
        self.assertEqual(going(game, [(1, 1), (2, 1)]), [])
        self.assertIs(is_calm(game, [(1, 1), (2, 1)]), True)
        division = [as_ratio(1 - Fraction(1, LONG)), as_ratio(2 + Fraction(1, LONG))]
        self.assertEqual(going(game, division), [(0,)])
        self.assertIs(is_calm(game, division), False)

    def test_not_division(self):
        game = example()
        for value in NO_DIVISIONS_OF_FIVE:
            for call in (complaints, complaint_list, going, is_calm):
                with self.subTest(value=value), self.assertRaises(NotDivision):
                    call(game, value)
            for group in ((0,), (7,), None):
                with self.subTest(value=value), self.assertRaises(NotDivision):
                    complaint(game, value, group)
                with self.subTest(value=value), self.assertRaises(NotDivision):
                    is_calm(game, value, only=[group])

    def test_no_group(self):
        game = example()
        for value in NO_GROUPS_OF_THREE:
            self.assert_no_group(value, complaint, game, half(), value)
            self.assert_no_group(value, is_calm, game, half(), only=[value])
            self.assert_no_group(value, is_calm, game, half(), only=[(0,), (0, 2), value, (7,), (0, 1, 2)])

    def test_only_by_name(self):
        with self.assertRaises(TypeError):
            is_calm(example(), half(), [(0,)])

    def test_arguments_stay_and_results_are_new(self):
        game, division, only = example(), half(), [(1, 2), (0,), (0,)]
        for call in (complaints, complaint_list, going):
            first = call(game, division)
            second = call(game, tuple(division))
            self.assertEqual(first, second)
            first.clear()
            self.assertEqual(call(game, division), second)
        is_calm(game, division, only=only)
        self.assertEqual([game, division, only], [example(), half(), [(1, 2), (0,), (0,)]])


class Orders(DivisionCase):
    def test_like_words(self):
        numbers = [Fraction(-2), Fraction(-1, 2), Fraction(0), Fraction(1, 3), Fraction(1, 2), Fraction(10)]
        lists = [list(some) for length in range(3) for some in itertools.product(numbers, repeat=length)]
        for one, other in itertools.product(lists, repeat=2):
            told = list_order([as_ratio(x) for x in one], [as_ratio(x) for x in other])
            self.assertIs(type(told), int)
            self.assertEqual(told, (one > other) - (one < other))

    def test_one_is_the_beginning_of_the_other(self):
        self.assertEqual(list_order([(1, 2)], [(1, 2), (-5, 1)]), -1)
        self.assertEqual(list_order([(1, 2), (-5, 1)], [(1, 2)]), 1)
        self.assertEqual(list_order([], [(-5, 1)]), -1)
        self.assertEqual(list_order([(-5, 1)], []), 1)
        self.assertEqual(list_order([], ()), 0)
        self.assertEqual(list_order([(1, 1)], [(0, 1), (5, 1)]), 1)

    def test_tuples_and_names(self):
        self.assertEqual(list_order(((1, 2), (1, 1)), [(1, 2), (1, 1)]), 0)
        self.assertEqual(list_order(other=[(1, 2)], one=[(1, 3)]), -1)

    def test_long_lists(self):
        rows = [(k, 1) for k in range(40)]
        self.assertEqual(list_order(rows, rows[:-1] + [(79, 2)]), -1)
        self.assertEqual(list_order(rows, list(rows)), 0)


class Means(DivisionCase):
    def test_even(self):
        for players in range(1, 6):
            for game in some_games(players, 6, 1000):
                told = even_division(game)
                self.assertEqual(len(told), players)
                for one in told:
                    self.assert_ratio(one, Fraction(game[game.whole], players))
                self.assertIs(is_division(game, told), True)
                told.clear()
                self.assertEqual(len(even_division(game=game)), players)

    def test_blended(self):
        for players in range(1, 6):
            for game in some_games(players, 2, 1000):
                lists = divisions_of(game)
                for shares in ([1, 1, 1, 1], [0, 0, 0, 1], [5, 0, 1, 0], [2, 4, 6, 8], [1000, 1, 0, 999]):
                    before = copy.deepcopy([lists, shares])
                    told = blended(lists, shares)
                    for k in range(players):
                        expected = sum(Fraction(share, sum(shares)) * fraction(one[k])
                                       for one, share in zip(lists, shares))
                        self.assert_ratio(told[k], expected)
                    self.assertEqual(len(told), players)
                    self.assertIs(is_division(game, told), True)
                    self.assertEqual([lists, shares], before)
                    self.assertEqual(blended(tuple(tuple(one) for one in lists), tuple(shares)), told)

    def test_one_list_and_many(self):
        self.assertEqual(blended(shares=[7], divisions=[[(1, 2), (3, 1)]]), [(1, 2), (3, 1)])
        lists = [[(k, 1)] for k in range(40)]
        self.assertEqual(blended(lists, [1] * 40), [(39, 2)])
        first = blended(lists, [1] * 40)
        first.append(1)
        self.assertEqual(blended(lists, [1] * 40), [(39, 2)])

    def test_sums_need_not_be_the_same(self):
        self.assertEqual(blended([[(1, 1), (2, 1)], [(0, 1), (0, 1)]], [1, 2]), [(1, 3), (2, 3)])

    def test_calm_divisions_stay_calm(self):
        game = game_of(3, 0, 4, 7, 4, 0, 4, 0)
        corners = [[(1, 1), (3, 1), (3, 1)], [(3, 1), (1, 1), (3, 1)], [(3, 1), (3, 1), (1, 1)]]
        for shares in itertools.product(range(3), repeat=3):
            if any(shares):
                self.assertIs(is_calm(game, blended(corners, list(shares))), True)

    def test_bad_shares_first(self):
        right = [half(), half()]
        for shares in ([], [1], [1, 1, 1], [0, 0], [1, -1], [-1, 2], [True, 1], [1, False], [1, 1.0], ["1", 1],
                       [1, None], [(1, 1), (1, 1)], None, 2, "11", {0: 1, 1: 1}):
            for lists in (right, [[], half()], [[(1, 1)], half()], [None, None]):
                with self.subTest(shares=shares), self.assertRaises(BadShares):
                    blended(lists, shares)
        with self.assertRaises(BadShares):
            blended([], [])
        with self.assertRaises(BadShares):
            blended([], [1])

    def test_then_not_division(self):
        for value in [None, 3, "ab", {}, [], (), [(1, 1)] * 6] + [[(1, 1), one, (2, 1)] for one in NO_RATIOS]:
            for lists in ([half(), value], [value, half()], [half(), [(1, 1)], value]):
                for last in (0, 1):
                    with self.subTest(value=value), self.assertRaises(NotDivision):
                        blended(lists, [1] * (len(lists) - 1) + [last])

    def test_then_mismatch(self):
        for one, other in itertools.permutations(range(1, 6), 2):
            for shares in ([1, 1], [1, 0], [0, 1]):
                with self.assertRaises(Mismatch):
                    blended([[(1, 1)] * one, [(1, 1)] * other], shares)


if __name__ == "__main__":
    unittest.main()
