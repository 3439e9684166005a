"""Points 121 to 124: markets of pairs, and places that are linked to a source."""

import copy
import itertools
import random
import unittest
from fractions import Fraction

from leastcomplaint.bounds import greatest_amount, greatest_for, least_amount, least_for
from leastcomplaint.divisions import blended, is_calm
from leastcomplaint.errors import BadGains, BadLinks, NotCalm
from leastcomplaint.games import Game
from leastcomplaint.least import least_division
from leastcomplaint.sources import (
    best_for_buyers, best_for_sellers, best_pairing, least_links, linked, market, sellers_better, tree_division,
)
from reckoning import LONG, all_corners, all_groups, as_ratio, fraction, game_of, seconds, total

SIZES = [(sellers, buyers) for sellers in range(1, 5) for buyers in range(1, 6 - sellers)]
OF_GAINS = (market, best_pairing, best_for_sellers, best_for_buyers)
OF_LINKS = (linked, least_links, tree_division)

# Values that are no gains of a market.
NO_GAINS = [
    None, 5, "", "ab", {}, [], (), [[]], [[], []], [()], [5], [[1], []], [[], [1]], [[1, 2], [3]], [[1], [2, 3]],
    [[1, 2, 3, 4, 5]], [[1], [2], [3], [4], [5]], [[1, 2, 3]] * 3, [[1, 2]] * 4, [[1, 2, 3, 4]] * 2, [[-1]], [[1001]],
    [[LONG]], [[-LONG]], [[True]], [[False]], [[1.0]], [["1"]], [[None]], [[(1, 1)]], [[1, 2], [3, True]], [[1, 2], 3],
    [[1, 2], "ab"], [[1, 2], {0: 1, 1: 2}], [[1, 2], None], [None, [1, 2]], {0: [1]}, ["a"], [{0: 1}], [[1, -1], [0, 0]],
]


def some_gains(sellers, buyers, seed=121):
    source = random.Random(seed * 100 + sellers * 10 + buyers)
    found = [[[0] * buyers for seller in range(sellers)], [[7] * buyers for seller in range(sellers)]]
    for most in (2, 6, 30, 1000):
        found.append([[source.randint(0, most) for buyer in range(buyers)] for seller in range(sellers)])
    found.append([[source.choice((0, 0, 5, 1000)) for buyer in range(buyers)] for seller in range(sellers)])
    return found


def pairings(gains, group):
    """All pairings of some members of a group, as lists of tuples."""
    pairs = [(seller, buyer) for seller in group for buyer in group if seller < len(gains) <= buyer]
    for many in range(len(pairs) + 1):
        for some in itertools.combinations(pairs, many):
            members = [player for pair in some for player in pair]
            if len(members) == len(set(members)):
                yield list(some)


def gain_of(gains, pairing):
    return sum(gains[seller][buyer - len(gains)] for seller, buyer in pairing)


def some_costs(places, seed=123):
    """Costs of links: some of them alike, some of them 0."""
    source = random.Random(seed * 10 + places)
    found = []
    for most in (0, 1, 3, 10, 1000):
        for times in range(3):
            between = [[0] * places for place in range(places)]
            for one, other in itertools.combinations(range(places), 2):
                between[one][other] = between[other][one] = source.randint(0, most)
            found.append(([source.randint(0, most) for place in range(places)], between))
    return found


def cost_of(direct, between, links):
    return sum(direct[place] if nearer == -1 else between[place][nearer] for place, nearer in links)


def all_links(group):
    """All ways to link each member of a group to another one or to the source so that the source is reached."""
    for nearer in itertools.product([-1, *group], repeat=len(group)):
        links = dict(zip(group, nearer))
        if all(reaches_source(links, place) for place in group):
            yield list(links.items())


def reaches_source(links, place):
    for step in range(len(links)):
        place = links[place]
        if place == -1:
            return True
    return False


LINKS = {group: list(all_links(group)) for group in all_groups(5)}


class Interface(unittest.TestCase):
    def test_markets(self):
        gains = [[5, 3], [4, 1]]
        self.assertEqual([market(gains)[(0, 1, 2)], market(gains)[(0, 1, 2, 3)], best_pairing(gains)],
                         [5, 7, [(0, 3), (1, 2)]])
        self.assertEqual([best_for_sellers(gains), best_for_buyers(gains)],
                         [[(3, 1), (2, 1), (2, 1), (0, 1)], [(1, 1), (0, 1), (4, 1), (2, 1)]])

    def test_links(self):
        between = [[0, 1, 9], [1, 0, 2], [9, 2, 0]]
        game = linked([4, 6, 3], between)
        self.assertEqual([game[(0,)], game[(0, 1)], game[(0, 2)], game[(0, 1, 2)]], [-4, -5, -7, -6])
        self.assertEqual([least_links([4, 6, 3], between), tree_division([4, 6, 3], between)],
                         [[(0, 1), (1, 2), (2, -1)], [(-1, 1), (-2, 1), (-3, 1)]])


class Markets(unittest.TestCase):
    def test_all_pairings(self):
        for sellers, buyers in SIZES:
            for gains in some_gains(sellers, buyers):
                game = market(gains)
                self.assertIs(type(game), Game)
                self.assertEqual(game.players, sellers + buyers)
                for group in all_groups(sellers + buyers):
                    most = max(gain_of(gains, pairing) for pairing in pairings(gains, group))
                    self.assertEqual(game[group], most)
                best = best_pairing(gains)
                self.assertEqual([type(best), best], [list, sorted(best)])
                self.assertIn(best, list(pairings(gains, game.whole)))
                self.assertEqual(gain_of(gains, best), game[game.whole])
                for seller, buyer in best:
                    self.assertGreater(gains[seller][buyer - sellers], 0)

    def assert_best(self, gains, told, favoured):
        """A calm division that gives these players the greatest amounts, and the other ones the least amounts."""
        game = market(gains)
        self.assertEqual([type(told), len(told)], [list, game.players])
        self.assertEqual(total(told, game.whole), game[game.whole])
        for group in game:
            self.assertGreaterEqual(total(told, group), game[group])
        for player in game.whole:
            others = tuple(k for k in game.whole if k != player)
            if player in favoured:
                self.assertEqual(told[player], (game[game.whole] - game[others], 1))
                self.assertEqual(told[player], greatest_amount(game, (player,)))
            else:
                self.assertEqual(told[player], least_amount(game, (player,)))
        if game.players < 5:
            corners = all_corners(game)
            for player in game.whole:
                amounts = [corner[player] for corner in corners]
                self.assertEqual(fraction(told[player]), max(amounts) if player in favoured else min(amounts))

    def test_best_divisions(self):
        for sellers, buyers in SIZES:
            for gains in some_gains(sellers, buyers, 122):
                self.assert_best(gains, best_for_sellers(gains), range(sellers))
                self.assert_best(gains, best_for_buyers(gains), range(sellers, sellers + buyers))

    def test_by_hand(self):
        self.assertEqual(market([[7]]), game_of(2, 0, 7, 0))
        self.assertEqual([best_pairing([[7]]), best_pairing([[0]])], [[(0, 1)], []])
        self.assertEqual([best_for_sellers([[7]]), best_for_buyers([[7]])], [[(7, 1), (0, 1)], [(0, 1), (7, 1)]])
        self.assertEqual(best_for_sellers([[0]]), [(0, 1), (0, 1)])
        # One seller gains from the second best buyer, too.
        self.assertEqual(best_for_buyers([[5, 3, 9, 1]]), [(5, 1), (0, 1), (0, 1), (4, 1), (0, 1)])
        self.assertEqual(best_for_sellers([[5, 3, 9, 1]]), [(9, 1), (0, 1), (0, 1), (0, 1), (0, 1)])
        self.assertEqual(best_for_sellers([[5], [3], [9], [1]]), [(0, 1), (0, 1), (4, 1), (0, 1), (5, 1)])
        self.assertEqual(best_pairing([[5], [3], [9], [1]]), [(2, 4)])
        self.assertEqual(best_pairing(gains=[[0, 5], [0, 0]]), [(0, 3)])

    def test_tuples(self):
        for gains in some_gains(2, 3):
            for call in OF_GAINS:
                kept = copy.deepcopy(gains)
                self.assertEqual(call(tuple(tuple(row) for row in gains)), call(gains))
                self.assertEqual(gains, kept)
                first = call(gains)
                if call != market:
                    first.clear()
                    self.assertEqual(call(gains), call(kept))

    def test_least_and_greatest_gains(self):
        self.assertEqual(market([[0, 1000], [1000, 1000]])[(0, 1, 2, 3)], 2000)
        for gains in ([[1001]], [[-1]], [[0, 0], [0, 1001]]):
            for call in OF_GAINS:
                with self.assertRaises(BadGains):
                    call(gains)

    def test_bad_gains(self):
        for value in NO_GAINS:
            for call in OF_GAINS:
                with self.subTest(value=value), self.assertRaises(BadGains):
                    call(value)
            for one in ([], None, [(0, 1), (0, 1)]):
                with self.subTest(value=value), self.assertRaises(BadGains):
                    sellers_better(value, one, one)


class Better(unittest.TestCase):
    def calm_divisions(self, game):
        found = [least_division(game)]
        for player in game.whole:
            found += [least_for(game, (player,)), greatest_for(game, (player,))]
        found.append(blended(found, [k + 1 for k in range(len(found))]))
        return found

    def test_sellers_better(self):
        unlike = 0
        for sellers, buyers in SIZES:
            for gains in some_gains(sellers, buyers, 124)[::2]:
                game = market(gains)
                for one, other in itertools.product(self.calm_divisions(game)[:8], repeat=2):
                    kept = copy.deepcopy([one, other])
                    told = sellers_better(gains, one, other)
                    for player in game.whole:
                        choose = max if player < sellers else min
                        self.assertEqual(told[player], choose(one[player], other[player], key=fraction))
                    self.assertIs(is_calm(game, told), True)
                    self.assertEqual(sellers_better(gains, tuple(one), tuple(other)), told)
                    self.assertEqual([one, other], kept)
                    unlike += told not in (one, other)
                best, worst = best_for_sellers(gains), best_for_buyers(gains)
                self.assertEqual(sellers_better(gains, best, worst), best)
                self.assertEqual(sellers_better(gains, worst, best), best)
        self.assertGreater(unlike, 5)

    def test_new_list(self):
        one = best_for_sellers([[5, 3], [4, 1]])
        told = sellers_better(other=one, one=one, gains=[[5, 3], [4, 1]])
        told.clear()
        self.assertEqual(len(one), 4)

    def test_not_calm(self):
        gains = [[5, 3], [4, 1]]
        right = best_for_sellers(gains)
        near = [as_ratio(fraction(one) + step * Fraction(1, LONG)) for one, step in zip(right, (1, -1, 0, 0))]
        for value in (None, 5, "", {}, [], right[:3], [*right, (0, 1)], [(7, 1), (0, 1), (0, 1), (0, 1)], near,
                      [(7, 4)] * 4, [(2, 1)] * 4, [(4, 1), (2, 1), (2, 1), (0, 1)], [3, 2, 2, 0], market(gains),
                      [(3, 1), (2, 1), (2, 1), None], [(3, 1), (2, 1), (2, 1), (0, 2)], right[0]):
            for one, other in ((value, right), (right, value), (value, value)):
                with self.subTest(value=value), self.assertRaises(NotCalm):
                    sellers_better(gains, one, other)
        self.assertEqual(sellers_better(gains, right, right), right)


class Links(unittest.TestCase):
    def test_all_ways(self):
        for places in range(1, 6):
            for direct, between in some_costs(places)[:: 2 if places == 5 else 1]:
                game = linked(direct, between)
                self.assertIs(type(game), Game)
                self.assertEqual(game.players, places)
                for group in all_groups(places):
                    least = min(cost_of(direct, between, links) for links in LINKS[group])
                    self.assertEqual(game[group], -least)
                links = least_links(direct, between)
                self.assertIs(type(links), list)
                self.assertIn(links, LINKS[game.whole])
                self.assertEqual(cost_of(direct, between, links), -game[game.whole])
                self.assert_tree(game, direct, between, links)

    def assert_tree(self, game, direct, between, links):
        told = tree_division(direct, between)
        self.assertEqual(told, [(-cost_of(direct, between, [link]), 1) for link in links])
        self.assertEqual(total(told, game.whole), game[game.whole])
        for group in game:
            self.assertGreaterEqual(total(told, group), game[group])
        self.assertIs(is_calm(game, told), True)

    def test_by_hand(self):
        self.assertEqual(linked([5], [[0]]), game_of(1, -5))
        self.assertEqual([least_links([5], [[0]]), tree_division([5], [[0]])], [[(0, -1)], [(-5, 1)]])
        self.assertEqual([least_links([0], [[0]]), tree_division([0], [[0]])], [[(0, -1)], [(0, 1)]])
        direct, between = [1, 1000, 1000], [[0, 2, 1000], [2, 0, 3], [1000, 3, 0]]
        self.assertEqual(least_links(between=between, direct=direct), [(0, -1), (1, 0), (2, 1)])
        self.assertEqual(tree_division(between=between, direct=direct), [(-1, 1), (-2, 1), (-3, 1)])
        self.assertEqual(linked(between=between, direct=direct), game_of(3, -1, -3, -6, -1001, -1000, -1003, -1000))

    def test_no_cycles_of_costs_0(self):
        for places in range(2, 6):
            direct, between = [3] * places, [[0] * places for place in range(places)]
            links = least_links(direct, between)
            self.assertEqual(sum(nearer == -1 for place, nearer in links), 1)
            self.assertIn(links, LINKS[tuple(range(places))])
            self.assertEqual(linked(direct, between)[tuple(range(places))], -3)

    def test_costs_that_are_alike(self):
        for places in range(2, 6):
            between = [[0 if one == other else 4 for one in range(places)] for other in range(places)]
            self.assertEqual(tree_division([4] * places, between), [(-4, 1)] * places)
            self.assertEqual(linked([4] * places, between), Game(places, {g: -4 * len(g) for g in all_groups(places)}))

    def test_tuples(self):
        for direct, between in some_costs(4):
            for call in OF_LINKS:
                kept = copy.deepcopy([direct, between])
                first = call(tuple(direct), tuple(tuple(row) for row in between))
                self.assertEqual(call(direct, between), first)
                self.assertEqual([direct, between], kept)
                if call != linked:
                    first.clear()
                    self.assertEqual(len(call(direct, between)), 4)

    def test_bad_links(self):
        right, zeros = [4, 6, 3], [[0, 1, 9], [1, 0, 2], [9, 2, 0]]
        for direct in (None, 5, "", "abc", {}, [], (), [4, 6], [4, 6, 3, 1], [4, 6, -1], [4, 6, 1001], [4, 6, LONG],
                       [4, 6, True], [False, 6, 3], [4, 6, 3.0], [4, 6, "3"], [4, 6, None], [4, 6, (3, 1)], [[4, 6, 3]],
                       {0: 4, 1: 6, 2: 3}):
            for call in OF_LINKS:
                with self.subTest(direct=direct), self.assertRaises(BadLinks):
                    call(direct, zeros)
        rows = [None, 5, "", {}, [], (), zeros[:2], [*zeros, [0, 0, 0]], [row[:2] for row in zeros],
                [[*row, 0] for row in zeros], [zeros[0], zeros[1], None], [zeros[0], zeros[1], 9], ["abc"] * 3, [0, 0, 0],
                {0: zeros[0], 1: zeros[1], 2: zeros[2]}]
        for at, other in itertools.product(range(3), repeat=2):
            for value in (-1, 1001, LONG, True, False, None, "1", 1.0, (1, 1)):
                changed = copy.deepcopy(zeros)
                changed[at][other] = changed[other][at] = value
                rows.append(changed)
            changed = copy.deepcopy(zeros)
            changed[at][other] += 1
            rows.append(changed)
        for between in rows:
            for call in OF_LINKS:
                with self.subTest(between=between), self.assertRaises(BadLinks):
                    call(right, between)
        with self.assertRaises(BadLinks):
            linked([], [])
        with self.assertRaises(BadLinks):
            linked([1] * 6, [[0] * 6 for place in range(6)])
        self.assertEqual(linked([1000], [[0]])[(0,)], -1000)


class Everywhere(unittest.TestCase):
    def test_games_do_not_know_of_one_another(self):
        tables = [gains for sellers, buyers in SIZES for gains in some_gains(sellers, buyers, 125)]
        first = [[call(gains) for call in OF_GAINS] for gains in tables]
        for gains, told in reversed(list(zip(tables, first))):
            self.assertEqual([call(gains) for call in OF_GAINS], told)
        costs = [pair for places in range(1, 6) for pair in some_costs(places, 125)]
        first = [[call(*pair) for call in OF_LINKS] for pair in costs]
        for pair, told in reversed(list(zip(costs, first))):
            self.assertEqual([call(*pair) for call in OF_LINKS], told)

    def test_in_time(self):
        for sellers, buyers in SIZES:
            gains = some_gains(sellers, buyers, 126)[-2]
            for call in OF_GAINS:
                self.assertLess(seconds(call, gains), 1)
        for direct, between in some_costs(5, 126):
            for call in OF_LINKS:
                self.assertLess(seconds(call, direct, between), 1)


if __name__ == "__main__":
    unittest.main()
