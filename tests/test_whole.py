"""Points 1 to 9 over all files: names and arguments of the interface, and what the stages say of one game."""

import importlib
import inspect
import itertools
import unittest

from leastcomplaint import errors
from leastcomplaint.bench import Bench
from leastcomplaint.bounds import (
    floor_weights, greatest_amount, is_tight, least_amount, least_for, lowest_amounts, need_family, needed, tight,
)
from leastcomplaint.calm import (
    calm_division, calm_to, clash, family_against, is_simple, lack, ladder, simple_parts,
)
from leastcomplaint.compared import groups_same, implies, multipliers, same_divisions, shows_implied
from leastcomplaint.corners import corner_shares, corners, is_corner, tight_groups
from leastcomplaint.divisions import (
    amount, blended, complaint_list, complaints, even_division, going, is_calm, is_division, list_order,
)
from leastcomplaint.games import Game, additive, part, renamed, turned
from leastcomplaint.least import evidence, improved, least_division, move, shows_least
from leastcomplaint.lists import closed, group_without, made_by, price_lists, shows_lists
from leastcomplaint.notation import (
    division_text, family_text, read_bench, read_division, read_family, read_game, report, text_of,
)
from leastcomplaint.orders import average, is_orderly, joined, order_against
from leastcomplaint.ratios import compare, times, together
from leastcomplaint.sources import best_for_buyers, best_for_sellers, linked, market, tree_division
from reckoning import all_groups, fraction, seconds, some_games, total
from samples import calm_games

FUNCTIONS = {
    "ratios": """ratio(top, bottom=1); plus(one, other); minus(one, other); times(one, other); compare(one, other);
        lowest(numbers); together(ratios); ratio_text(one); read_ratio(text)""",
    "games": """groups(players); additive(amounts); shifted(game, amounts); part(game, group); turned(game);
        put_together(game, one, other); renamed(game, order)""",
    "divisions": """amount(division, group); is_division(game, value); complaint(game, division, group);
        complaints(game, division); complaint_list(game, division); going(game, division);
        is_calm(game, division, *, only=None); list_order(one, other); even_division(game);
        blended(divisions, shares)""",
    "programs": "least(rows, totals, costs); is_least(rows, totals, costs, answer)",
    "calm": """calm_division(game, *, only=None); family_against(game, *, only=None); is_family(game, value);
        count_of(game, family); lack(game, family); is_simple(game, family); simple_parts(game, family); calm_to(game);
        ladder(game); clash(game, *, only=None)""",
    "bounds": """needed(game, *, only=None); lowest_amounts(game, *, only=None); need_family(game, *, only=None);
        least_amount(game, group); greatest_amount(game, group); least_for(game, group); greatest_for(game, group);
        floor_weights(game, group); shows_floor(game, group, value, told); tight(game); is_tight(game)""",
    "compared": """implies(one, other); division_between(one, other); multipliers(one, other);
        shows_implied(one, other, paper); same_divisions(one, other); groups_same(games)""",
    "orders": """joined(game, order); bad_pair(game); order_against(game); is_orderly(game); average(game);
        dividends(game); from_dividends(players, dividends)""",
    "least": """least_division(game); levels(game, division); groups_from(game, division, level);
        evidence(game, division); move(game, division); shows_least(game, division, told);
        shows_move(game, division, told); improved(game, division)""",
    "lists": "price_lists(game); group_without(game); shows_lists(game, lists); made_by(lists); closed(game)",
    "corners": """tight_groups(game, division); is_corner(game, division); corners(game);
        corner_shares(game, division)""",
    "sources": """market(gains); best_pairing(gains); best_for_sellers(gains); best_for_buyers(gains);
        sellers_better(gains, one, other); linked(direct, between); least_links(direct, between);
        tree_division(direct, between)""",
    "notation": """text_of(thing); division_text(division); family_text(family); read_game(text); read_division(text);
        read_family(text); read_bench(text); report(game)""",
}
METHODS = {
    ("games", "Game"): """worths(self); __len__(self); __getitem__(self, at); __iter__(self); __contains__(self, x);
        __eq__(self, other); __add__(self, other); __neg__(self); __mul__(self, other); __init__(self, players, worths)""",
    ("bench", "Bench"): """put(self, name, game); join(self, new, one, other); scale(self, name, factor);
        shift(self, name, amounts); change(self, name, group, worth); rename(self, name, new); drop(self, name);
        undo(self); redo(self); names(self); calm(self, name); least(self, name); same(self, one, other); groups(self);
        steady(self, name, group); total(self, periods); divided(self, periods); trial(self); tried(self, names, deed);
        __getitem__(self, at); __contains__(self, x); __len__(self); __init__(self, players)""",
}
ERRORS = """BadRatio(bottom) BadText() BadPlayers() BadWorths() BadAmounts() BadOrder() BadProgram() BadShares()
BadName(name) BadLine(line) NoGroup(group) NoPlayer(player) NotDivision() NotFamily() NotCalm() TooMany(players)
Mismatch() NameTaken(name) UnknownName(name) NothingToUndo() NothingToRedo() BadGains() BadLinks()""".split()


def all_games():
    """Games of one to five players, with calm divisions and without."""
    found = []
    for players in range(1, 6):
        many = 4 if players == 5 else 8
        found += [*some_games(players, many, 25, seed=9), *calm_games(players, many, 25, 9)]
    return found


class Names(unittest.TestCase):
    def assert_listed(self, holder, listed):
        for line in listed.split(";"):
            name, told = line.strip().split("(", 1)
            self.assertIn(name, vars(holder))
            call = vars(holder)[name]
            self.assertEqual(str(inspect.signature(call)), "(" + " ".join(told.split()), name)
            self.assertEqual(call.__module__, getattr(holder, "__module__", holder.__name__))

    def test_functions(self):
        for name, listed in FUNCTIONS.items():
            self.assert_listed(importlib.import_module(f"leastcomplaint.{name}"), listed)

    def test_methods(self):
        for (name, kind), listed in METHODS.items():
            holder = getattr(importlib.import_module(f"leastcomplaint.{name}"), kind)
            self.assertEqual(holder.__module__, f"leastcomplaint.{name}")
            self.assert_listed(holder, listed)
        for name in ("undos", "redos"):
            self.assertIs(type(vars(Bench)[name]), property)
            self.assertIs(type(getattr(Bench(2), name)), int)

    def test_errors(self):
        self.assertEqual(errors.DivisionError.__bases__, (ValueError,))
        kinds = [kind for kind in vars(errors).values() if isinstance(kind, type)]
        self.assertEqual(len(kinds), 1 + len(ERRORS))
        for listed in ERRORS:
            name, told = listed.rstrip(")").split("(")
            kind = getattr(errors, name)
            self.assertEqual(kind.__bases__, (errors.DivisionError,))
            value = object()
            error = kind(value) if told else kind()
            self.assertEqual([told == "" or getattr(error, told) is value, isinstance(error, ValueError)], [True, True])


class OneGame(unittest.TestCase):
    def test_whether_there_is_a_calm_division(self):
        kinds = set()
        for game in all_games():
            told = calm_division(game)
            calm = told is not None
            kinds.add((game.players, calm))
            lacking = needed(game)
            bench = Bench(game.players)
            bench.put("a", game)
            says = [family_against(game) is None, ladder(game)[-1][0] is not None, calm_to(game) == game.players,
                    clash(game) is None, lacking is None or lacking[0] <= 0, tight(game) is not None,
                    least_for(game, (0,)) is not None, floor_weights(game, game.whole) is not None,
                    is_calm(game, least_division(game)), closed(game)[game.whole] == (game[game.whole], 1),
                    implies(game, Game(game.players, {**game.worths(), game.whole: -10 ** 6})) is False,
                    isinstance(multipliers(game, game)[next(iter(multipliers(game, game)))], tuple),
                    bench.calm("a"), report(game).startswith("calm yes\n")]
            if game.players < 5:
                says += [corners(game) != [], corner_shares(game, least_division(game)) is not None]
            self.assertEqual(set(says), {calm})
            if calm:
                self.assertEqual([is_calm(game, told), going(game, told)], [True, []])
        self.assertEqual(len(kinds), 9)

    def test_families(self):
        for game in all_games():
            family = family_against(game)
            if family is None:
                continue
            self.assertGreater(lack(game, family)[0], 0)
            self.assertLessEqual(compare(lack(game, family), needed(game)), 0)
            self.assertEqual(lack(game, need_family(game)), needed(game))
            self.assertIs(is_simple(game, need_family(game)), True)
            self.assertEqual(read_family(family_text(family)), family)
            parts = simple_parts(game, family)
            self.assertTrue(any(compare(lack(game, one), lack(game, family)) >= 0 for share, one in parts))
            self.assertIs(shows_implied(game, additive([0] * game.players), family), True)
            # In every division some group of the clash goes.
            for division in (least_division(game), even_division(game), average(game)):
                self.assertTrue(set(clash(game)) & set(going(game, division)))

    def test_the_least_division(self):
        for game in all_games():
            best = least_division(game)
            bench = Bench(game.players)
            bench.put("a", game)
            self.assertIs(is_division(game, best), True)
            self.assertIs(shows_least(game, best, evidence(game, best)), True)
            self.assertEqual([move(game, best), improved(game, best), bench.least("a")], [None, None, best])
            self.assertEqual(bench.divided([("a", 3)]), [times((3, 1), one) for one in best])
            self.assertEqual(read_division(division_text(best)), best)
            self.assertEqual(report(game).split("\n")[2], division_text(best).replace("division", "least"))
            for other in (even_division(game), average(game), joined(game, list(game.whole)), calm_division(game)):
                if other is not None and other != best:
                    self.assertEqual(list_order(complaint_list(game, best), complaint_list(game, other)), -1)
                    self.assertIsNotNone(move(game, other))

    def test_bounds(self):
        for game in all_games():
            best, bounds = least_division(game), tight(game)
            if bounds is None:
                continue
            ends = corners(game) if game.players < 5 else []
            lines = report(game).split("\n")[3:]
            for group in game:
                low, high = least_amount(game, group), greatest_amount(game, group)
                own = amount(best, group)
                self.assertTrue(compare(low, own) <= 0 <= compare(high, own))
                self.assertEqual(bounds[group], low)
                self.assertTrue(compare(low, closed(game)[group]) >= 0)
                if ends:
                    amounts = [total(end, group) for end in ends]
                    self.assertEqual([min(amounts), max(amounts)], [fraction(low), fraction(high)])
                if len(group) == 1:
                    words = lines[group[0]].split(" ")[2:]
                    self.assertEqual(read_division(" ".join(["division", *words])), [low, high])
            unit, tops = together(list(bounds.values()))
            made = Game(game.players, dict(zip(bounds, tops)))
            self.assertEqual([is_tight(made), same_divisions(game * unit, made)], [True, True])
            self.assertEqual(groups_same([game * unit, made]), [[0, 1]])

    def test_corners(self):
        for game in all_games():
            if game.players < 5 and calm_division(game) is not None:
                ends = corners(game)
                for division in (least_division(game), calm_division(game)):
                    self.assertEqual(blended(ends, corner_shares(game, division)), division)
                for end in ends:
                    told = complaints(game, end)
                    self.assertEqual([told[group] for group in tight_groups(game, end)],
                                     [(0, 1)] * len(tight_groups(game, end)))
                self.assertEqual(len(ends) == 1, lowest_amounts(game) is not None and all(
                    least_amount(game, (k,)) == greatest_amount(game, (k,)) for k in game.whole) or game.players == 1)

    def test_lists_and_parts(self):
        for game in all_games():
            lists = price_lists(game)
            parts = [calm_division(part(game, group)) is not None for group in game]
            self.assertEqual([lists is not None, group_without(game) is None], [all(parts)] * 2)
            if lists is not None:
                self.assertEqual([made_by(lists), shows_lists(game, lists)], [game, True])
                self.assertIsNotNone(calm_division(game))
                self.assertEqual(closed(game), {group: (game[group], 1) for group in game})

    def test_orders(self):
        for game in all_games():
            orders = list(itertools.permutations(game.whole))[::5]
            if is_orderly(game):
                for order in orders:
                    self.assertIs(is_corner(game, joined(game, order)), True)
                self.assertIs(is_calm(game, average(game)), True)
                self.assertIsNotNone(price_lists(game))
                self.assertIs(is_tight(game), True)
            else:
                self.assertIs(is_calm(game, joined(game, order_against(game))), False)
            self.assertEqual(average(game), average(turned(game)))

    def test_markets_and_links(self):
        for gains in ([[5, 3], [4, 1]], [[7]], [[3, 0, 9, 2]], [[3], [0], [9]], [[5, 3, 8], [4, 1, 8]], [[0, 0], [0, 0]]):
            game = market(gains)
            for division in (best_for_sellers(gains), best_for_buyers(gains)):
                self.assertIs(is_corner(game, division), True)
            self.assertIs(is_calm(game, least_division(game)), True)
            if game.players < 5:
                self.assertIn(best_for_buyers(gains), corners(game))
        between = [[0, 1, 9], [1, 0, 2], [9, 2, 0]]
        self.assertIs(is_corner(linked([4, 6, 3], between), tree_division([4, 6, 3], between)), True)

    def test_renamed_games(self):
        for game in all_games():
            order = list(game.whole[::-1])
            other = renamed(game, order)
            self.assertEqual(least_division(other), least_division(game)[::-1])
            self.assertEqual(needed(other), needed(game))
            self.assertEqual(calm_to(other), calm_to(game))

    def test_texts(self):
        bench = Bench(3)
        for name, game in zip("abc", some_games(3, 3, 20, seed=10)):
            self.assertEqual(read_game(text_of(game)), game)
            bench.put(name, game)
        self.assertEqual(text_of(read_bench(text_of(bench))), text_of(bench))


class Everywhere(unittest.TestCase):
    ANSWERS = (calm_division, family_against, ladder, calm_to, clash, needed, lowest_amounts, need_family, tight,
               is_tight, least_division, price_lists, group_without, closed, average, order_against, is_orderly, report,
               text_of)

    def test_other_games_make_no_difference(self):
        games = all_games()
        first = [[call(game) for call in self.ANSWERS] for game in games]
        for game, told in reversed(list(zip(games, first))):
            self.assertEqual([call(game) for call in self.ANSWERS], told)

    def test_in_time(self):
        for game in [*some_games(5, 3, 10 ** 40, seed=11), *calm_games(5, 3, 10 ** 40, 11)]:
            for call in self.ANSWERS:
                self.assertLess(seconds(call, game), 4)

    def test_groups_of_a_game(self):
        for players in range(1, 6):
            self.assertEqual(list(additive([1] * players)), all_groups(players))


if __name__ == "__main__":
    unittest.main()
