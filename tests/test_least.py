"""Points 4 to 6 and 91 to 95: the least complaints, with evidence and moves."""

import copy
import itertools
import math
import random
import unittest
from fractions import Fraction

from leastcomplaint.divisions import even_division
from leastcomplaint.errors import NotDivision
from leastcomplaint.games import Game, additive, renamed
from leastcomplaint.least import (
    evidence, groups_from, improved, least_division, levels, move, shows_least, shows_move,
)
from reckoning import (
    LONG, NO_DIVISIONS_OF_FIVE, all_groups, as_ratio, fraction, game_of, greatest_earned, seconds, simple_families,
    some_games, total,
)
from samples import calm_games

OF_DIVISION = (levels, evidence, move, improved)


def example():
    return game_of(3, 0, 4, 5, 4, 0, 1, 0)


def others_of(game):
    return [group for group in all_groups(game.players) if len(group) < game.players]


def complaints_of(game, amounts):
    """The complaints of the groups other than the whole, for a list of fractions."""
    return {group: game[group] - sum(amounts[k] for k in group) for group in others_of(game)}


def list_of(game, amounts):
    return sorted(complaints_of(game, amounts).values(), reverse=True)


def levels_of(game, amounts):
    return sorted(set(complaints_of(game, amounts).values()), reverse=True)


def from_level(game, amounts, level):
    return [group for group, complaint in complaints_of(game, amounts).items() if complaint >= level]


def fractions(division):
    return [fraction(one) for one in division]


def ratios(amounts):
    return [as_ratio(one) for one in amounts]


def is_family_of(game, family, chosen):
    """Whether a dict is a family whose keys are just some groups."""
    if set(family) != set(chosen) or not all(weight >= 1 for weight in family.values()):
        return False
    counts = {sum(weight for group, weight in family.items() if k in group) for k in range(game.players)}
    return len(counts) == 1 and min(counts) >= 1


def is_evidence(game, amounts, told):
    steps = levels_of(game, amounts)
    if len(told) != len(steps):
        return False
    return all(is_family_of(game, family, from_level(game, amounts, level)) for level, family in zip(steps, told))


def is_move(game, amounts, told):
    level, steps = told
    if fraction(level) not in levels_of(game, amounts) or len(steps) != game.players or sum(steps) != 0:
        return False
    gains = [sum(steps[k] for k in group) for group in from_level(game, amounts, fraction(level))]
    return min(gains) >= 0 and max(gains) > 0


def some_divisions(game, seed):
    """Divisions far from the least one, and near to it."""
    source = random.Random(seed)
    best = fractions(least_division(game))
    found = [fractions(even_division(game))]
    for bottom in (1, 3, 10 ** 6, LONG):
        steps = [Fraction(source.randint(-5, 5), bottom) for k in range(game.players)]
        found.append([one + step for one, step in zip(best, steps)])
        found[-1][source.randrange(game.players)] -= sum(steps)
    one, other = source.sample(range(game.players), 2) if game.players > 1 else (0, 0)
    near = list(best)
    near[one] += Fraction(1, LONG)
    near[other] -= Fraction(1, LONG)
    return [*found, near]


def game_of_claims(claims, estate):
    """What an estate leaves for a group when all others have got their claims."""
    everybody = range(len(claims))
    return Game(len(claims), {group: max(0, estate - sum(claims[k] for k in everybody if k not in group))
                              for group in all_groups(len(claims))})


def by_claims(claims, estate):
    """Equal gains, but nobody gets more than half the claim; beyond half of all, equal losses in the same way."""
    halves = [Fraction(claim, 2) for claim in claims]
    if estate > sum(halves):
        return [claim - loss for claim, loss in zip(claims, by_claims(claims, sum(claims) - estate))]
    rest, left = Fraction(estate), len(halves)
    shares = {}
    for k in sorted(range(len(halves)), key=lambda k: halves[k]):
        shares[k] = min(halves[k], rest / left)
        rest -= shares[k]
        left -= 1
    return [shares[k] for k in range(len(halves))]


class LeastCase(unittest.TestCase):
    def assert_ratios(self, told):
        self.assertIs(type(told), list)
        for one in told:
            self.assertEqual([type(one), type(one[0]), type(one[1])], [tuple, int, int])
            self.assertEqual([one[1] >= 1, math.gcd(*one)], [True, 1])

    def assert_division(self, game, division):
        self.assert_ratios(division)
        self.assertEqual(len(division), game.players)
        self.assertEqual(total(division, game.whole), game[game.whole])

    def assert_told(self, game, amounts):
        """Either evidence, or a move and a better division; tells whether there is evidence."""
        division = ratios(amounts)
        told, moved, better = evidence(game, division), move(game, division), improved(game, division)
        self.assertEqual([moved is None, better is None], [told is not None] * 2)
        if told is not None:
            self.assertEqual([type(told), {type(family) for family in told} <= {dict}], [list, True])
            for family in told:
                self.assertTrue(all(type(weight) is int for weight in family.values()))
            self.assertTrue(is_evidence(game, amounts, told))
            self.assertIs(shows_least(game, division, told), True)
            return True
        self.assertEqual([type(moved), len(moved), type(moved[1])], [tuple, 2, list])
        self.assertTrue(all(type(step) is int for step in moved[1]))
        self.assert_ratios([moved[0]])
        self.assertTrue(is_move(game, amounts, moved))
        self.assertIs(shows_move(game, division, moved), True)
        self.assert_division(game, better)
        self.assertLess(list_of(game, fractions(better)), list_of(game, amounts))
        return False


class Interface(unittest.TestCase):
    def test_first_lines(self):
        game = example()
        best = least_division(game)
        self.assertEqual(
            [best, list_of(game, fractions(best)), levels(game, best)],
            [[(11, 3), (2, 3), (2, 3)],
             [Fraction(-1, 3)] * 3 + [Fraction(-2, 3)] * 2 + [Fraction(-11, 3)], [(-1, 3), (-2, 3), (-11, 3)]],
        )

    def test_second_lines(self):
        game = example()
        best = least_division(game)
        self.assertEqual(
            [shows_least(game, best, evidence(game, best)), move(game, best), improved(game, best)],
            [True, None, None],
        )

    def test_third_lines(self):
        game, even = example(), even_division(example())
        self.assertEqual(
            [evidence(game, even), shows_move(game, even, move(game, even)),
             shows_move(game, even, ((2, 3), [2, -1, -1]))],
            [None, True, True],
        )
        self.assertLess(list_of(game, fractions(improved(game, even))), list_of(game, fractions(even)))


class Least(LeastCase):
    def test_evidence(self):
        for players in range(1, 6):
            for game in some_games(players, 40, 25, seed=91):
                best = least_division(game)
                self.assert_division(game, best)
                self.assertIs(self.assert_told(game, fractions(best)), True)
                self.assertEqual(len(evidence(game, best)), len(levels_of(game, fractions(best))))

    def test_no_other_division_is_less(self):
        for players in range(2, 6):
            for k, game in enumerate(some_games(players, 12, 25, seed=92)):
                best = fractions(least_division(game))
                for amounts in some_divisions(game, k):
                    if amounts == best:
                        continue
                    self.assertLess(list_of(game, best), list_of(game, amounts))
                    self.assertIs(self.assert_told(game, amounts), False)
                    self.assertEqual(improved(game, tuple(ratios(amounts))), improved(game, ratios(amounts)))

    def test_greatest_complaint(self):
        """No division has a lesser greatest complaint: families of the groups with it earn too much for that."""
        for players in range(2, 5):
            families = simple_families(players, [x for x in all_groups(players) if len(x) < players])
            for game in some_games(players, 12, 25, seed=93):
                worst = list_of(game, fractions(least_division(game)))[0]
                weighed = [sum(family.values()) for family in families]
                earned = [greatest_earned(game, [family]) - game[game.whole] for family in families]
                self.assertEqual(worst, max(lack / weight for lack, weight in zip(earned, weighed)))

    def test_two_players(self):
        for one, both, other in itertools.product(range(-3, 4), repeat=3):
            game = game_of(2, one, both, other)
            self.assertEqual(least_division(game), [as_ratio(Fraction(both + one - other, 2)),
                                                    as_ratio(Fraction(both + other - one, 2))])

    def test_one_player(self):
        for worth in (-5, 0, 1000):
            game = game_of(1, worth)
            best = [(worth, 1)]
            self.assertEqual([least_division(game), levels(game, best), evidence(game, best)], [best, [], []])
            self.assertEqual([move(game, best), improved(game, best)], [None, None])
            self.assertEqual(groups_from(game, best, (-100, 1)), [])
            self.assertEqual([shows_least(game, best, []), shows_least(game, best, ())], [True, True])
            for told in ([{}], [{(0,): 1}], None, {}, 0, ""):
                self.assertIs(shows_least(game, best, told), False)
            for told in (((0, 1), [0]), ((worth, 1), [0]), ((0, 1), [])):
                self.assertIs(shows_move(game, best, told), False)

    def test_claims(self):
        """The divisions of an estate among claims: those that the Talmud tells, and others by the same rule."""
        claims = [100, 200, 300]
        self.assertEqual([least_division(game_of_claims(claims, estate)) for estate in (100, 200, 300)],
                         [[(100, 3)] * 3, [(50, 1), (75, 1), (75, 1)], [(50, 1), (100, 1), (150, 1)]])
        for claims in ([100, 200, 300], [7], [5, 9], [60, 100, 140, 200], [60, 100, 140, 200, 240], [3, 3, 8, 8, 8]):
            for estate in range(0, sum(claims) + 1, max(1, sum(claims) // 12)):
                told = least_division(game_of_claims(claims, estate))
                self.assertEqual(fractions(told), by_claims(claims, estate))

    def test_later_levels_decide(self):
        # The pairs with player 0 and the others settle nothing among the rest at first.
        game = Game(4, {group: {(0,): 4, (1, 2, 3): 4, (1, 2): 2, (2, 3): 1}.get(group, -20)
                        for group in all_groups(4)} | {(0, 1, 2, 3): 10})
        best = least_division(game)
        self.assertIs(self.assert_told(game, fractions(best)), True)
        self.assertEqual(best[0], (5, 1))
        self.assertGreater(len(levels(game, best)), 3)

    def test_adding_amounts(self):
        """Point 95."""
        for players in range(1, 6):
            for game in some_games(players, 8, 25, seed=94):
                best = fractions(least_division(game))
                amounts = [7, -3, 0, 1000, -20][:players]
                self.assertEqual(least_division(game + additive(amounts)),
                                 ratios([one + more for one, more in zip(best, amounts)]))
                for factor in (1, 2, 30):
                    self.assertEqual(least_division(game * factor), ratios([one * factor for one in best]))
                order = [3, 0, 4, 2, 1]
                order = [k for k in order if k < players]
                self.assertEqual(least_division(renamed(game, order)), ratios([best[k] for k in order]))

    def test_calm_if_there_is_a_calm_division(self):
        for players in range(1, 6):
            for game in calm_games(players, 20, 25, 95):
                complaints = complaints_of(game, fractions(least_division(game)))
                self.assertTrue(all(one <= 0 for one in complaints.values()))

    def test_players_who_add_the_same(self):
        for players in range(2, 6):
            for game in some_games(players, 8, 25, seed=96):
                swap = [1, 0, *range(2, players)]
                both = game + renamed(game, swap)
                best = least_division(both)
                self.assertEqual(best[0], best[1])

    def test_alike_complaints(self):
        for players in range(2, 6):
            game = additive([3, -1, 0, 5, 2][:players])
            best = least_division(game)
            self.assertEqual(best, [(one, 1) for one in [3, -1, 0, 5, 2][:players]])
            self.assertEqual(levels(game, best), [(0, 1)])
            self.assertEqual(groups_from(game, best, (0, 1)), others_of(game))
            told = evidence(game, best)
            self.assertEqual(len(told), 1)
            self.assertTrue(is_family_of(game, told[0], others_of(game)))
            if players > 2:
                self.assertIs(shows_least(game, best, [{(k,): 1 for k in range(players)}]), False)


class Levels(LeastCase):
    def test_levels_and_groups(self):
        for players in range(1, 6):
            for k, game in enumerate(some_games(players, 6, 25, seed=97)):
                for amounts in [*some_divisions(game, k), fractions(least_division(game))]:
                    told = levels(game, ratios(amounts))
                    self.assert_ratios(told)
                    self.assertEqual([fraction(one) for one in told], levels_of(game, amounts))
                    self.assertEqual(levels(game, tuple(ratios(amounts))), told)
                    between = [Fraction(0), Fraction(-10 ** 9), Fraction(10 ** 9), Fraction(1, LONG)]
                    for level in [*levels_of(game, amounts), *between]:
                        for step in (0, Fraction(1, LONG), -Fraction(1, LONG)):
                            self.assertEqual(groups_from(game, ratios(amounts), as_ratio(level + step)),
                                             from_level(game, amounts, level + step))

    def test_by_hand(self):
        game = game_of(2, 3, 4, 2)
        self.assertEqual(levels(game, [(1, 1), (3, 1)]), [(2, 1), (-1, 1)])
        self.assertEqual(groups_from(game, [(1, 1), (3, 1)], (2, 1)), [(0,)])
        self.assertEqual(groups_from(game, [(1, 1), (3, 1)], (5, 2)), [])
        self.assertEqual(groups_from(level=(-1, 1), division=[(1, 1), (3, 1)], game=game), [(0,), (1,)])
        self.assertEqual(levels(division=[(5, 2), (3, 2)], game=game), [(1, 2)])

    def test_not_division(self):
        game = game_of(3, 0, 4, 5, 4, 0, 4, 0)
        for value in NO_DIVISIONS_OF_FIVE:
            for call in OF_DIVISION:
                with self.subTest(value=value), self.assertRaises(NotDivision):
                    call(game, value)
            with self.subTest(value=value), self.assertRaises(NotDivision):
                groups_from(game, value, (0, 1))
            for told in ([], None, ((0, 1), [0, 0, 0]), 7):
                with self.subTest(value=value), self.assertRaises(NotDivision):
                    shows_least(game, value, told)
                with self.subTest(value=value), self.assertRaises(NotDivision):
                    shows_move(game, value, told)


class Shown(LeastCase):
    def test_changed_evidence(self):
        found = set()
        for players in range(2, 5):
            for game in [*some_games(players, 4, 12, seed=98), additive([1] * players), Game(players, dict.fromkeys(
                    all_groups(players), 3))]:
                best = least_division(game)
                amounts, told = fractions(best), evidence(game, best)
                self.assertIs(shows_least(game, best, told), True)
                changed = [told, told[1:], told[:-1], told + told[-1:], told[::-1], [], told[:1] * len(told)]
                for at, family in enumerate(told):
                    rows = [{**family, key: family.get(key, 0) + step} for key in all_groups(players)
                            for step in (-1, 1)]
                    rows += [{key: family[key] for key in family if key != left} for left in family]
                    rows += [{key: weight * 7 for key, weight in family.items()}, {}, {game.whole: 1}]
                    rows += [{**family, key: 1} for key in ((), (players,), (1, 0), (0, 0), (-1,))]
                    rows.append({**family, game.whole: 1})
                    changed += [[*told[:at], row, *told[at + 1:]] for row in rows]
                for some in changed[::2 if players == 4 else 1]:
                    expected = is_evidence(game, amounts, some)
                    self.assertIs(shows_least(game, tuple(best), tuple(some)), expected, some)
                    found.add(expected)
        self.assertEqual(found, {True, False})

    def test_evidence_of_other_divisions(self):
        for players in range(2, 6):
            for k, game in enumerate(some_games(players, 4, 12, seed=99)):
                best = least_division(game)
                told = evidence(game, best)
                for amounts in some_divisions(game, k):
                    if amounts != fractions(best):
                        self.assertIs(shows_least(game, ratios(amounts), told), False)

    def test_changed_moves(self):
        found = set()
        for players in range(2, 6):
            for k, game in enumerate(some_games(players, 6, 12, seed=100)):
                for amounts in some_divisions(game, k)[:3]:
                    division = ratios(amounts)
                    moved = move(game, division)
                    if moved is None:
                        continue
                    level, steps = moved
                    changed = [(as_ratio(other), steps) for other in levels_of(game, amounts)]
                    changed += [(as_ratio(fraction(level) + step), steps) for step in (1, -1, Fraction(1, LONG))]
                    changed += [(level, [step * factor for step in steps]) for factor in (-1, 0, 2, LONG)]
                    changed += [(level, steps[1:]), (level, [*steps, 0]), (level, []), (level, [0] * players)]
                    for at in range(players):
                        for step in (-1, 1):
                            more = [one + step * (k == at) for k, one in enumerate(steps)]
                            changed.append((level, more))
                            more = [one - step * (k == (at + 1) % players) for k, one in enumerate(more)]
                            changed.append((level, more))
                    for told in changed:
                        expected = is_move(game, amounts, told)
                        self.assertIs(shows_move(game, division, told), expected, told)
                        self.assertIs(shows_move(game, tuple(division), (told[0], tuple(told[1]))), expected)
                        found.add(expected)
        self.assertEqual(found, {True, False})

    def test_no_move_from_the_least_division(self):
        for players in range(2, 5):
            for game in some_games(players, 4, 12, seed=101):
                best = least_division(game)
                for level in levels(game, best):
                    for steps in itertools.product((-2, -1, 0, 1, 2), repeat=players):
                        if sum(steps) == 0:
                            self.assertIs(shows_move(game, best, (level, list(steps))), False)

    def test_moves_lessen_complaints(self):
        """A short way in the direction of a move, the complaints are less."""
        for players in range(2, 6):
            for k, game in enumerate(some_games(players, 6, 25, seed=102)):
                for amounts in some_divisions(game, k):
                    moved = move(game, ratios(amounts))
                    if moved is not None:
                        short = Fraction(1, 10 ** 60)
                        after = [one + step * short for one, step in zip(amounts, moved[1])]
                        self.assertLess(list_of(game, after), list_of(game, amounts))

    def test_other_values(self):
        game, best = example(), least_division(example())
        told = evidence(game, best)
        for value in (None, 0, "", {}, told[0], [None] * 3, [[]] * 3, [1, 2, 3], ["a", "b", "c"],
                      [list(told[0]), *told[1:]], [told[0], told[1], None], [{**told[0], "a": 1}, *told[1:]],
                      [{**told[0], 0: 1}, *told[1:]], [{key: True for key in told[0]}, *told[1:]],
                      [{key: 1.0 for key in told[0]}, *told[1:]]):
            self.assertIs(shows_least(game, best, value), False, value)
        false = [{(False,) if key == (0,) else key: weight for key, weight in family.items()} for family in told]
        self.assertIs(shows_least(game, best, false), False)
        even = even_division(game)
        for value in (None, 0, (), [], ((2, 3),), ((2, 3), [2, -1, -1], 0), [(2, 3), [2, -1, -1]], ((4, 6), [2, -1, -1]),
                      ([2, 3], [2, -1, -1]), (2, [2, -1, -1]), ((2.0, 3), [2, -1, -1]), ((2, 3), None), ((2, 3), 2),
                      ((2, 3), [2.0, -1, -1]), ((2, 3), ["2", -1, -1]), ((2, 3), [True, -1, 0]), ((2, 3), {}),
                      ((2, 3), [2, -1]), ((2, 3), [2, -1, -1, 0]), ((2, 3), [2, -1, 0])):
            self.assertIs(shows_move(game, even, value), False, value)
        one = game_of(2, 5, 5, 2)
        self.assertIs(shows_move(one, [(4, 1), (1, 1)], ((1, 1), [0, 0])), False)
        self.assertIs(shows_move(one, [(3, 1), (2, 1)], ((2, 1), [1, -1])), True)
        self.assertIs(shows_move(one, [(3, 1), (2, 1)], ((True, 1), [1, -1])), False)

    def test_names(self):
        game, even = example(), even_division(example())
        best = least_division(game=game)
        self.assertIs(shows_least(told=evidence(division=best, game=game), division=best, game=game), True)
        self.assertIs(shows_move(told=move(division=even, game=game), division=even, game=game), True)
        self.assertEqual(improved(division=even, game=game), improved(game, even))


class Everywhere(LeastCase):
    def answers(self, game):
        best, even = least_division(game), even_division(game)
        return [best, *[call(game, division) for call in OF_DIVISION for division in (best, even)],
                groups_from(game, even, (0, 1))]

    def test_arguments_stay_and_results_are_new(self):
        games = [game for players in range(1, 6) for game in some_games(players, 4, 50, seed=103)]
        first = [self.answers(game) for game in games]
        kept = copy.deepcopy(first)
        for answers in first:
            for told in answers:
                if isinstance(told, tuple):
                    told[1].clear()
                elif told is not None:
                    for inner in told:
                        if isinstance(inner, dict):
                            inner.clear()
                    told.clear()
        for game, told in reversed(list(zip(games, kept))):
            self.assertEqual(self.answers(Game(game.players, dict(reversed(game.worths().items())))), told)

    def test_divisions_stay(self):
        game, even = example(), even_division(example())
        told, moved = evidence(game, least_division(game)), move(game, even)
        kept = copy.deepcopy([even, told, moved])
        for call in OF_DIVISION:
            call(game, even)
        shows_least(game, even, told)
        shows_move(game, even, moved)
        self.assertEqual([even, told, moved], kept)
        self.assertIs(shows_least(game, least_division(game), [dict(reversed(family.items())) for family in told]),
                      True)

    def test_great_worths_in_time(self):
        for game in [*some_games(5, 6, 10 ** 30, seed=104), *calm_games(5, 2, 10 ** 30, 104)]:
            self.assertLess(seconds(least_division, game), 2)
            best = least_division(game)
            far = ratios(some_divisions(game, 1)[3])
            for call in OF_DIVISION:
                self.assertLess(seconds(call, game, best), 3)
                self.assertLess(seconds(call, game, far), 3)
            self.assertIs(self.assert_told(game, fractions(best)), True)


if __name__ == "__main__":
    unittest.main()
