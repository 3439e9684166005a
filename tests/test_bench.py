"""Points 131 to 136: a bench of games, with undo and trials."""

import copy
import itertools
import random
import unittest
from fractions import Fraction

from leastcomplaint.bench import Bench
from leastcomplaint.calm import calm_division
from leastcomplaint.compared import same_divisions
from leastcomplaint.divisions import is_calm
from leastcomplaint.errors import (
    BadAmounts, BadName, BadPlayers, BadShares, DivisionError, Mismatch, NameTaken, NoGroup, NothingToRedo,
    NothingToUndo, UnknownName,
)
from leastcomplaint.games import Game, additive, shifted
from leastcomplaint.least import least_division
from reckoning import (
    LONG, NO_GROUPS_OF_THREE, all_groups, as_ratio, fraction, game_of, seconds, some_games, total,
)
from samples import calm_games

NO_NAMES = ["", "abcdefghi", "A", "aB", "a1", "1", " ", "a ", " a", "a b", "a-b", "a_b", "a\n", "\n", "a.", "{", "`",
            "abcdefgH", None, 5, True, ("a",), ["a"], {}]
NO_AMOUNTS = [None, 3, "", {}, [], [1, 2], [1, 2, 3, 4], [1, 2, True], [1, 2, None], [1, 2, 3.0], [1, 2, "3"],
              [1, 2, (3, 1)], {0: 1, 1: 2, 2: 3}]
NO_PERIODS = [None, 5, "", "ab", {}, {"a": 1}, ("a", 1), [("a",)], [("a", 1, 1)], [["a", 1]], [("a", 0)], [("a", -1)],
              [("a", True)], [("a", 1.0)], [("a", "1")], [("a", None)], [(1, 1)], [(None, 1)], ["a"], [None],
              [("b", 1), ("a", 0)], [("zzz", 1), ("a", 0)], [("a", 1), ("b", 2), ()], [(("a",), 1)]]


def a_game(step=0):
    return game_of(3, 0, 4 + step, 7, 4, 0, 4, 0)


def poor():
    return game_of(3, 0, 4, 5, 4, 0, 4, 0)


def a_bench():
    """A bench with two games, one change that can be done again, and three that can be taken back."""
    bench = Bench(3)
    bench.put("b", poor())
    bench.put("a", a_game())
    bench.scale("b", 2)
    bench.drop("a")
    bench.undo()
    return bench


def state(bench):
    """All that a bench tells, also when all changes are taken back and done again."""
    found = [told(bench)]
    undos, redos = bench.undos, bench.redos
    with bench.trial():
        for k in range(redos):
            bench.redo()
            found.append(told(bench))
        for k in range(undos + redos):
            bench.undo()
            found.append(told(bench))
    return found


def told(bench):
    return [bench.players, {name: bench[name].worths() for name in bench.names()}, len(bench), bench.undos, bench.redos]


class BenchCase(unittest.TestCase):
    def assert_raises(self, error, bench, call, *arguments, **attributes):
        """A call raises an error with its attributes, and nothing changes."""
        before = state(bench)
        with self.assertRaises(DivisionError) as caught:
            call(*arguments)
        self.assertIs(type(caught.exception), error, arguments)
        for name, value in attributes.items():
            self.assertIs(getattr(caught.exception, name), value)
        self.assertEqual(state(bench), before)

    def assert_change(self, bench, call, *arguments, **named):
        """A call changes the bench: it can be taken back and done again."""
        games, undos = told(bench)[1], bench.undos
        self.assertIsNone(call(*arguments, **named))
        after = told(bench)[1]
        self.assertEqual([bench.undos, bench.redos], [undos + 1, 0])
        bench.undo()
        self.assertEqual([told(bench)[1], bench.undos, bench.redos], [games, undos, 1])
        bench.redo()
        self.assertEqual([told(bench)[1], bench.undos, bench.redos], [after, undos + 1, 0])


class Interface(unittest.TestCase):
    def setUp(self):
        self.bench = Bench(2)
        self.bench.put("even", game_of(2, 0, 4, 0))
        self.bench.put("odd", game_of(2, 3, 4, 2))

    def test_first_lines(self):
        bench = self.bench
        self.assertEqual([bench.calm("even"), bench.calm("odd"), bench.least("even"), bench.least("odd"),
                          bench.groups()],
                         [True, False, [(2, 1), (2, 1)], [(5, 2), (3, 2)], [["even"], ["odd"]]])

    def test_second_lines(self):
        bench = self.bench
        self.assertEqual([bench.total([("even", 2), ("odd", 1)])[(0, 1)], bench.divided([("even", 2), ("odd", 1)]),
                          bench.steady("odd", (0,))],
                         [12, [(13, 2), (11, 2)], (3, 3)])

    def test_third_lines(self):
        bench = self.bench
        self.assertEqual([bench.tried(["odd"], lambda b: [b.change("odd", (0,), 1), b.calm("odd"), b.names()]),
                          bench.calm("odd"), bench.undos],
                         [[None, True, ["odd"]], False, 2])


class Names(BenchCase):
    def test_empty(self):
        for players in range(1, 6):
            bench = Bench(players)
            self.assertEqual([bench.players, len(bench), bench.names(), bench.undos, bench.redos, "a" in bench,
                              bench.groups(), bench.divided([])],
                             [players, 0, [], 0, 0, False, [], [(0, 1)] * players])
            self.assertEqual(bench.total([]), additive([0] * players))
            self.assertEqual(Bench(players=players).players, players)
            for call in (bench.undo, bench.redo):
                with self.assertRaises((NothingToUndo, NothingToRedo)):
                    call()

    def test_bad_players(self):
        for value in (0, 6, -1, LONG, True, False, None, "3", 3.0, (3,), [3]):
            with self.subTest(value=value), self.assertRaises(BadPlayers):
                Bench(value)

    def test_put(self):
        bench = Bench(3)
        games = {"b": poor(), "abcdefgh": a_game(), "a": a_game(1), "z": poor(), "zz": -poor()}
        for count, (name, game) in enumerate(games.items()):
            self.assert_change(bench, bench.put, name=name, game=game)
            self.assertEqual([len(bench), bench[name], name in bench], [count + 1, game, True])
        self.assertEqual(bench.names(), ["a", "abcdefgh", "b", "z", "zz"])
        self.assertEqual([type(bench.names()), type(bench["a"])], [list, Game])
        self.assertEqual([name in bench for name in ("", "A", "ab", "abcdefghi", "a ")], [False] * 5)
        bench.names().clear()
        self.assertEqual(len(bench.names()), 5)
        self.assertEqual({name: bench[name] for name in bench.names()}, games)

    def test_names_that_there_are_not(self):
        bench = a_bench()
        for name in ("c", "", "A", "ab", "a ", None, 5, ("a",), ["a"], {}):
            self.assert_raises(UnknownName, bench, lambda: bench[name], name=name)
            self.assertIs(name in bench, False)

    def test_put_errors(self):
        bench = a_bench()
        for name in NO_NAMES:
            for game in (a_game(), additive([1, 2])):
                self.assert_raises(BadName, bench, bench.put, name, game, name=name)
        for name in ("a", "b"):
            for game in (a_game(), additive([1, 2])):
                self.assert_raises(NameTaken, bench, bench.put, name, game, name=name)
        for players in (1, 2, 4, 5):
            self.assert_raises(Mismatch, bench, bench.put, "c", additive([1] * players))

    def test_a_name_may_come_again(self):
        bench = a_bench()
        bench.drop("a")
        bench.put("a", poor())
        self.assertEqual(bench["a"], poor())
        bench.rename("a", "c")
        bench.put("a", a_game())
        self.assertEqual([bench["a"], bench["c"]], [a_game(), poor()])

    def test_many_games(self):
        bench = Bench(2)
        for k in range(40):
            bench.put(chr(97 + k % 26) + "x" * (k // 26), additive([k, 2 * k]))
        self.assertEqual([len(bench), bench.undos, bench.names()[:3]], [40, 40, ["a", "ax", "b"]])

    def test_benches_do_not_know_of_one_another(self):
        one, other = a_bench(), a_bench()
        one.drop("a")
        self.assertEqual(told(other), told(a_bench()))

    def test_not_iterated(self):
        with self.assertRaises(TypeError):
            iter(a_bench())


class Changes(BenchCase):
    def test_join(self):
        bench = a_bench()
        self.assert_change(bench, bench.join, new="c", one="a", other="b")
        self.assertEqual([bench["c"], bench["a"], bench["b"]], [a_game() + poor() * 2, a_game(), poor() * 2])
        self.assert_change(bench, bench.join, "d", "c", "c")
        self.assertEqual(bench["d"], (a_game() + poor() * 2) * 2)

    def test_join_errors(self):
        bench = a_bench()
        for new in ("a", "c", "", "toolongname"):
            self.assert_raises(UnknownName, bench, bench.join, new, "x", "y", name="x")
            self.assert_raises(UnknownName, bench, bench.join, new, "a", "y", name="y")
            self.assert_raises(UnknownName, bench, bench.join, new, "", "a", name="")
        for new in NO_NAMES:
            self.assert_raises(BadName, bench, bench.join, new, "a", "b", name=new)
        for new in ("a", "b"):
            self.assert_raises(NameTaken, bench, bench.join, new, "a", "b", name=new)

    def test_scale(self):
        for factor in (1, 0, -1, 7, LONG):
            bench = a_bench()
            self.assert_change(bench, bench.scale, name="a", factor=factor)
            self.assertEqual([bench["a"], bench["b"]], [a_game() * factor, poor() * 2])
            self.assert_raises(UnknownName, bench, bench.scale, "c", factor, name="c")

    def test_shift(self):
        bench = a_bench()
        amounts = [1, -5, LONG]
        self.assert_change(bench, bench.shift, name="a", amounts=amounts)
        self.assertEqual([bench["a"], bench["b"], amounts], [shifted(a_game(), amounts), poor() * 2, [1, -5, LONG]])
        amounts[0] = 100
        self.assertEqual(bench["a"], shifted(a_game(), [1, -5, LONG]))
        self.assert_change(bench, bench.shift, "a", (0, 0, 0))
        for value in NO_AMOUNTS:
            self.assert_raises(BadAmounts, bench, bench.shift, "a", value)
            self.assert_raises(UnknownName, bench, bench.shift, "c", value, name="c")

    def test_change(self):
        for group in all_groups(3):
            for worth in (0, -7, LONG):
                bench = a_bench()
                self.assert_change(bench, bench.change, name="a", group=group, worth=worth)
                self.assertEqual(bench["a"], Game(3, {**a_game().worths(), group: worth}))
                self.assertEqual(bench["b"], poor() * 2)
        bench = a_bench()
        for value in NO_GROUPS_OF_THREE:
            self.assert_raises(NoGroup, bench, bench.change, "a", value, 1, group=value)
            self.assert_raises(UnknownName, bench, bench.change, "c", value, 1, name="c")

    def test_rename(self):
        bench = a_bench()
        self.assert_change(bench, bench.rename, name="a", new="c")
        self.assertEqual([bench.names(), bench["c"], "a" in bench], [["b", "c"], a_game(), False])
        self.assert_change(bench, bench.rename, "c", "c")
        self.assertEqual([bench.names(), bench["c"]], [["b", "c"], a_game()])
        for new in NO_NAMES:
            self.assert_raises(BadName, bench, bench.rename, "c", new, name=new)
            self.assert_raises(UnknownName, bench, bench.rename, "a", new, name="a")
        self.assert_raises(NameTaken, bench, bench.rename, "c", "b", name="b")
        self.assert_raises(UnknownName, bench, bench.rename, "a", "b", name="a")
        self.assert_raises(UnknownName, bench, bench.rename, "a", "a", name="a")

    def test_drop(self):
        bench = a_bench()
        self.assert_change(bench, bench.drop, name="a")
        self.assertEqual([bench.names(), len(bench), "a" in bench], [["b"], 1, False])
        self.assert_raises(UnknownName, bench, bench.drop, "a", name="a")
        self.assert_change(bench, bench.drop, "b")
        self.assertEqual([bench.names(), len(bench)], [[], 0])

    def test_games_that_were_taken_from_the_bench_stay(self):
        bench = a_bench()
        game = bench["a"]
        bench.change("a", (0,), 100)
        self.assertEqual([game, game[(0,)]], [a_game(), 0])
        worths = bench["a"].worths()
        worths[(0,)] = 7
        self.assertEqual(bench["a"][(0,)], 100)

    def test_undo_and_redo(self):
        bench = Bench(3)
        self.assert_raises(NothingToUndo, bench, bench.undo)
        self.assert_raises(NothingToRedo, bench, bench.redo)
        bench.put("a", a_game())
        self.assertEqual([bench.undos, bench.redos, bench.undo(), bench.undos, bench.redos, len(bench)],
                         [1, 0, None, 0, 1, 0])
        self.assert_raises(NothingToUndo, bench, bench.undo)
        self.assertEqual([bench.redo(), bench.undos, bench.redos, bench["a"]], [None, 1, 0, a_game()])
        self.assert_raises(NothingToRedo, bench, bench.redo)

    def test_redo_behind_another_change(self):
        bench = a_bench()
        self.assertEqual([bench.undos, bench.redos], [3, 1])
        bench.scale("a", 1)
        self.assertEqual([bench.undos, bench.redos], [4, 0])
        self.assert_raises(NothingToRedo, bench, bench.redo)

    def test_errors_are_no_changes(self):
        bench = a_bench()
        for call in (lambda: bench.put("a", a_game()), lambda: bench.drop("x"), lambda: bench.scale("x", 2),
                     lambda: bench.shift("a", []), lambda: bench.change("a", (7,), 1), lambda: bench.rename("a", "b"),
                     lambda: bench.join("c", "a", "x")):
            with self.assertRaises(DivisionError):
                call()
            self.assertEqual([bench.undos, bench.redos], [3, 1])
        bench.redo()
        self.assertEqual(bench.names(), ["b"])

    def test_questions_are_no_changes(self):
        bench = a_bench()
        before = state(bench)
        bench.calm("a"), bench.least("a"), bench.same("a", "b"), bench.groups(), bench.steady("a", (0,))
        bench.total([("a", 2)]), bench.divided([("a", 2)]), bench.names(), bench["a"], bench.trial()
        bench.tried([], len), len(bench), "a" in bench
        self.assertEqual(state(bench), before)


class ByModel(BenchCase):
    """Many calls at random, beside a list of all states that the bench has had."""

    def step(self, source, bench, games):
        """One call; the games that should be there behind it, or None if it has to raise an error."""
        names = sorted(games) or ["none"]
        name, other = source.choice(names), source.choice([*names, "c"])
        new = source.choice(["a", "b", "c", "d", "e", "abcdefgh", "BAD"])
        known = name in games
        free = new not in games and new != "BAD"
        group, number = source.choice(all_groups(bench.players)), source.randint(-9, 9)
        amounts = [source.randint(-3, 3) for player in range(bench.players)]
        game = Game(bench.players, {group: source.randint(-9, 9) for group in all_groups(bench.players)})
        kind = source.randrange(7)
        if kind == 0:
            return (lambda: bench.put(new, game)), ({**games, new: game} if free else None)
        if kind == 1:
            after = {**games, new: games[name] + games[other]} if known and other in games and free else None
            return (lambda: bench.join(new, name, other)), after
        if kind == 2:
            return (lambda: bench.scale(name, number)), ({**games, name: games[name] * number} if known else None)
        if kind == 3:
            after = {**games, name: games[name] + additive(amounts)} if known else None
            return (lambda: bench.shift(name, amounts)), after
        if kind == 4:
            after = {**games, name: Game(bench.players, {**games[name].worths(), group: number})} if known else None
            return (lambda: bench.change(name, group, number)), after
        if kind == 5:
            after = {k: v for k, v in games.items() if k != name}
            return (lambda: bench.rename(name, new)), (
                {**after, new: games[name]} if known and (free or new == name) else None)
        return (lambda: bench.drop(name)), ({k: v for k, v in games.items() if k != name} if known else None)

    def assert_bench(self, bench, states, at):
        games = states[at]
        self.assertEqual({name: bench[name] for name in bench.names()}, games)
        self.assertEqual([bench.names(), len(bench)], [sorted(games), len(games)])
        self.assertEqual([bench.undos, bench.redos], [at, len(states) - 1 - at])

    def play(self, source, bench, states, at, steps, depth):
        for step in range(steps):
            kind = source.randrange(20)
            if kind < 4:
                error = NothingToUndo if at == 0 else None
                at -= error is None
                self.call(bench.undo, error)
            elif kind < 7:
                error = NothingToRedo if at == len(states) - 1 else None
                at += error is None
                self.call(bench.redo, error)
            elif kind < 9 and depth < 3:
                self.play_trial(source, bench, states, at, depth)
            else:
                call, after = self.step(source, bench, states[at])
                self.call(call, DivisionError if after is None else None)
                if after is not None:
                    states = [*states[:at + 1], after]
                    at += 1
            self.assert_bench(bench, states, at)

    def play_trial(self, source, bench, states, at, depth):
        if source.randrange(2):
            with self.assertRaises(ZeroDivisionError):
                with bench.trial() as same:
                    self.assertIs(same, bench)
                    self.play(source, bench, states, at, 6, depth + 1)
                    raise ZeroDivisionError()
            return
        names = source.sample(sorted(states[at]), source.randint(0, len(states[at])))
        rows = [*states[:at + 1]]
        for name in sorted(states[at]):
            if name not in names:
                rows.append({k: v for k, v in rows[-1].items() if k != name})
        left = states[at:] if len(rows) == at + 1 else []
        self.assertEqual(bench.tried(names, lambda b: self.tried(b, source, [*rows, *left[1:]], depth, len(rows) - 1)), 7)

    def tried(self, bench, source, states, depth, at):
        self.assertEqual([bench.undos, sorted(bench[name] == states[at][name] for name in bench.names())],
                         [at, [True] * len(states[at])])
        self.assertEqual(bench.names(), sorted(states[at]))
        self.play(source, bench, states, at, 4, depth + 1)
        return 7

    def call(self, call, error):
        if error is None:
            self.assertIsNone(call())
        else:
            with self.assertRaises(error):
                call()

    def test_many_calls(self):
        for seed in range(30):
            source = random.Random(seed)
            bench = Bench(source.randint(1, 3))
            self.play(source, bench, [{}], 0, 60, 0)


class Questions(BenchCase):
    def bench_of(self, games):
        bench = Bench(games[0].players)
        for k, game in enumerate(games):
            bench.put("kxazbdefghijlmnopqrstuvwy"[k], game)
        return bench

    def test_calm_least_and_same(self):
        for players in range(1, 6):
            bench = self.bench_of(some_games(players, 6, 20, seed=134))
            for name in bench.names():
                self.assertIs(bench.calm(name), calm_division(bench[name]) is not None)
                self.assertEqual(bench.least(name), least_division(bench[name]))
                for other in bench.names()[:3]:
                    self.assertIs(bench.same(name, other), same_divisions(bench[name], bench[other]))

    def test_groups(self):
        low = Game(3, {**a_game().worths(), (0,): -50})
        bench = self.bench_of([poor(), a_game(), low, -a_game(), poor() * 3, a_game(), a_game() * 2])
        self.assertEqual(bench.groups(), [["a", "d", "x"], ["b", "k", "z"], ["e"]])
        told = bench.groups()
        told[0].clear()
        told.clear()
        self.assertEqual(len(bench.groups()[0]), 3)

    def test_groups_by_pairs(self):
        for players in range(1, 5):
            games = calm_games(players, 6, 20, 135)
            lower = [Game(players, {**game.worths(), (0,): game[(0,)] - (players > 1)}) for game in games]
            bench = self.bench_of(games + lower + some_games(players, 6, 20, seed=135))
            parts = bench.groups()
            self.assertEqual([part[0] for part in parts], sorted(part[0] for part in parts))
            self.assertEqual(sorted(name for part in parts for name in part), bench.names())
            for part in parts:
                self.assertEqual(part, sorted(part))
            for one, other in itertools.combinations(bench.names(), 2):
                same = any(one in part and other in part for part in parts)
                self.assertIs(bench.same(one, other), same)

    def test_unknown_names(self):
        bench = a_bench()
        for call in (bench.calm, bench.least):
            self.assert_raises(UnknownName, bench, call, "c", name="c")
        self.assert_raises(UnknownName, bench, bench.same, "c", "a", name="c")
        self.assert_raises(UnknownName, bench, bench.same, "a", "d", name="d")
        self.assert_raises(UnknownName, bench, bench.same, "c", "d", name="c")
        self.assertEqual([bench.same(other="a", one="a"), bench.calm(name="a"), bench.least(name="a")],
                         [True, True, [(7, 3)] * 3])
        for value in NO_GROUPS_OF_THREE:
            self.assert_raises(UnknownName, bench, bench.steady, "c", value, name="c")
            self.assert_raises(NoGroup, bench, bench.steady, "a", value, group=value)


class Steady(BenchCase):
    def stays(self, game, group, worth):
        key = tuple(game.worths().values())
        if key not in self.best:
            self.best[key] = least_division(game)
        return least_division(Game(game.players, {**game.worths(), group: worth})) == self.best[key]

    def setUp(self):
        self.best = {}

    def assert_steady(self, game, group):
        bench = Bench(game.players)
        bench.put("a", game)
        told = bench.steady("a", group)
        self.assertEqual([type(told), len(told)], [tuple, 2])
        low, high = told
        if group == game.whole:
            self.assertEqual(told, (game[group], game[group]))
            return "whole"
        self.assertIs(type(high), int)
        start = game[group] - 3 if low is None else low
        self.assertTrue(start <= game[group] <= high)
        for worth in {start, high, (start + high) // 2, game[group]}:
            self.assertTrue(self.stays(game, group, worth), (game.worths(), group, worth))
        for worth in (high + 1, high + 2, high + 1000):
            self.assertFalse(self.stays(game, group, worth), (game.worths(), group, worth))
        if low is None:
            for worth in (-1000, -10 ** 6, -LONG):
                self.assertTrue(self.stays(game, group, worth))
            return "endless"
        for worth in (low - 1, low - 2, low - 1000):
            self.assertFalse(self.stays(game, group, worth), (game.worths(), group, worth))
        self.assertEqual(told, (game[group], game[group]))
        return "one"

    def test_all_worths(self):
        kinds = set()
        for players in range(1, 6):
            games = [*some_games(players, 2 if players > 3 else 9, 12, seed=136), *calm_games(players, 3, 12, 136)]
            for game in games:
                for group in [*all_groups(players)[::3 if players == 5 else 1], game.whole]:
                    kinds.add((players, self.assert_steady(game, group)))
        self.assertEqual(kinds, {(1, "whole"), (2, "whole"), (2, "one"), *itertools.product(
            range(3, 6), ("whole", "one", "endless"))})

    def test_each_worth_in_between(self):
        for game in (game_of(3, 0, 4, 5, 4, 0, 1, 0), poor(), a_game(), additive([1, 2, 3]), game_of(3, 9, 0, 3, 1, 2, 8, 0)):
            bench = Bench(3)
            bench.put("a", game)
            for group in all_groups(3)[:-1]:
                if group != game.whole:
                    low, high = bench.steady("a", group)
                    for worth in range(-40, 60):
                        expected = (low is None or low <= worth) and worth <= high
                        self.assertIs(self.stays(game, group, worth), expected)

    def test_ends_that_are_no_integers(self):
        worths = dict.fromkeys(all_groups(4), -9)
        worths.update({(0, 1): 1, (2, 3): 2, (0, 2): 1, (1, 3): 1, (0, 3): 0, (1, 2): 2, (0, 1, 2, 3): 5})
        game = Game(4, worths)
        for group in all_groups(4):
            self.assert_steady(game, group)
            self.assert_steady(game * 3, group)

    def test_by_hand(self):
        bench = Bench(2)
        bench.put("a", game_of(2, 3, 4, 2))
        self.assertEqual([bench.steady("a", (0,)), bench.steady("a", (1,)), bench.steady("a", (0, 1))],
                         [(3, 3), (2, 2), (4, 4)])
        self.assertEqual(bench.steady(group=(0,), name="a"), (3, 3))
        one = Bench(1)
        one.put("a", game_of(1, -8))
        self.assertEqual(one.steady("a", (0,)), (-8, -8))


class Trials(BenchCase):
    def test_bench_behind_a_trial(self):
        bench = a_bench()
        before = state(bench)
        with bench.trial() as same:
            self.assertIs(same, bench)
            self.assertEqual([bench.undos, bench.redos], [3, 1])
            bench.put("c", poor())
            bench.undo()
            bench.undo()
            bench.redo()
            bench.drop("a")
            bench.change("b", (0,), 9)
            self.assertEqual([bench.names(), bench.undos, bench.redos], [["b"], 5, 0])
        self.assertEqual(state(bench), before)

    def test_what_a_trial_takes_back_and_does_again(self):
        bench = a_bench()
        before = state(bench)
        with bench.trial():
            bench.redo()
            self.assertEqual([bench.names(), bench.undos, bench.redos], [["b"], 4, 0])
        self.assertEqual(state(bench), before)
        with bench.trial():
            for step in range(3):
                bench.undo()
            self.assertEqual([bench.names(), bench.undos, bench.redos], [[], 0, 4])
        self.assertEqual(state(bench), before)
        bench.redo()
        self.assertEqual(bench.names(), ["b"])

    def test_errors_go_on(self):
        bench = a_bench()
        before = state(bench)
        for error in (ZeroDivisionError, KeyError, UnknownName("x"), KeyboardInterrupt, StopIteration):
            with self.assertRaises(error if isinstance(error, type) else UnknownName):
                with bench.trial():
                    bench.drop("a")
                    raise error
            self.assertEqual(state(bench), before)
        with self.assertRaises(UnknownName) as caught:
            with bench.trial():
                bench.drop("a")
                bench.drop("a")
        self.assertEqual([caught.exception.name, state(bench)], ["a", before])

    def test_trials_within_trials(self):
        bench = a_bench()
        before = state(bench)
        with bench.trial():
            bench.drop("a")
            inside = state(bench)
            with bench.trial():
                bench.put("c", poor())
                with self.assertRaises(ZeroDivisionError):
                    with bench.trial():
                        bench.undo()
                        bench.undo()
                        raise ZeroDivisionError()
                self.assertEqual([bench.names(), bench.undos], [["b", "c"], 5])
            self.assertEqual(state(bench), inside)
        self.assertEqual(state(bench), before)

    def test_a_trial_begins_with_its_block(self):
        bench = a_bench()
        trial = bench.trial()
        bench.put("c", poor())
        before = state(bench)
        for times in range(2):
            with trial as same:
                self.assertIs(same, bench)
                bench.drop("c")
                inside = state(bench)
                with trial:
                    bench.drop("a")
                self.assertEqual(state(bench), inside)
            self.assertEqual(state(bench), before)

    def test_leaving_a_block_early(self):
        bench = a_bench()
        before = state(bench)
        for step in range(3):
            with bench.trial():
                bench.drop("a")
                if step == 1:
                    break
        self.assertEqual(state(bench), before)

    def test_tried(self):
        bench = a_bench()
        bench.put("c", a_game(1))
        before = state(bench)
        for names, undos in ((["a", "b", "c"], 4), (["b"], 6), ([], 7), (["c", "a", "c"], 5), (("a", "b"), 5)):
            found = []
            told = bench.tried(names, lambda one: found.append((one is bench, one.names(), one.undos)) or "told")
            self.assertEqual([told, found], ["told", [(True, sorted(set(names)), undos)]])
            self.assertEqual(state(bench), before)
        self.assertEqual(bench.tried(deed=lambda one: one.undo() or one.names(), names=["a", "c"]), ["a", "b", "c"])
        self.assertEqual(bench.tried(["a"], lambda one: one.tried([], Bench.names)), [])
        self.assertEqual(state(bench), before)

    def test_drops_are_changes_within_the_trial(self):
        bench = a_bench()
        self.assertEqual(bench.tried([], lambda one: [one.undo(), one.undo(), one.names(), one.redos]),
                         [None, None, ["a", "b"], 2])
        self.assertEqual(bench.tried(["a", "b"], lambda one: one.redos), 1)
        self.assertEqual(bench.tried(["a"], lambda one: [one.undos, one.redos]), [4, 0])

    def test_errors_of_a_deed(self):
        bench = a_bench()
        before = state(bench)

        def deed(one):
            one.drop("a")
            raise ZeroDivisionError()

        with self.assertRaises(ZeroDivisionError):
            bench.tried(["a"], deed)
        self.assertEqual(state(bench), before)
        self.assert_raises(UnknownName, bench, bench.tried, ["a"], lambda one: one.drop("b"), name="b")

    def test_unknown_names_ahead_of_the_trial(self):
        bench = a_bench()
        called = []
        for names, first in ((["x"], "x"), (["a", "y", "x"], "y"), (["", "a"], ""), (["A"], "A")):
            self.assert_raises(UnknownName, bench, bench.tried, names, called.append, name=first)
        self.assertEqual(called, [])

    def test_names_stay(self):
        names = ["b"]
        a_bench().tried(names, len)
        self.assertEqual(names, ["b"])


class Periods(BenchCase):
    def test_sums(self):
        source = random.Random(136)
        for players in range(1, 6):
            bench = Bench(players)
            for name, game in zip("abcdef", [*some_games(players, 3, 20, seed=137), *calm_games(players, 3, 20, 137)]):
                bench.put(name, game)
            for many in (0, 1, 2, 5, 40):
                periods = [(source.choice("abcdef"), source.choice((1, 2, 30, LONG))) for k in range(many)]
                kept = copy.deepcopy(periods)
                game, amounts = bench.total(periods), bench.divided(periods)
                self.assertEqual([type(game), game.players, type(amounts)], [Game, players, list])
                for group in all_groups(players):
                    self.assertEqual(game[group], sum(bench[name][group] * length for name, length in periods))
                for player in range(players):
                    expected = sum((fraction(least_division(bench[name])[player]) * length for name, length in periods),
                                   Fraction(0))
                    self.assertEqual(amounts[player], as_ratio(expected))
                self.assertEqual(total(amounts, game.whole), game[game.whole])
                if all(bench.calm(name) for name, length in periods):
                    self.assertIs(is_calm(game, amounts), True)
                self.assertEqual([bench.total(tuple(periods)), bench.divided(tuple(periods))], [game, amounts])
                self.assertEqual(periods, kept)
                amounts.clear()
                self.assertEqual(len(bench.divided(periods=periods)), players)

    def test_calm_games(self):
        bench = Bench(4)
        for name, game in zip("abc", calm_games(4, 3, 20, 138)):
            bench.put(name, game)
        periods = [("a", 3), ("c", 1), ("b", 20), ("a", 2)]
        self.assertIs(is_calm(bench.total(periods=periods), bench.divided(periods)), True)

    def test_bad_shares_first(self):
        bench = a_bench()
        for value in NO_PERIODS:
            self.assert_raises(BadShares, bench, bench.total, value)
            self.assert_raises(BadShares, bench, bench.divided, value)

    def test_then_unknown_names(self):
        bench = a_bench()
        for value, name in (([("x", 1)], "x"), ([("a", 1), ("y", 2), ("x", 1)], "y"), ([("", 1)], ""),
                            ((("b", 1), ("A", LONG)), "A")):
            self.assert_raises(UnknownName, bench, bench.total, value, name=name)
            self.assert_raises(UnknownName, bench, bench.divided, value, name=name)


class Everywhere(BenchCase):
    def test_names_of_arguments(self):
        bench = Bench(players=2)
        bench.put(game=game_of(2, 0, 4, 1), name="a")
        bench.join(other="a", one="a", new="b")
        bench.scale(factor=2, name="a")
        bench.shift(amounts=[1, 0], name="a")
        bench.change(worth=3, group=(1,), name="a")
        bench.rename(new="c", name="a")
        self.assertEqual([bench["c"], bench["b"]], [game_of(2, 1, 9, 3), game_of(2, 0, 8, 2)])
        bench.drop(name="b")
        self.assertEqual([bench.names(), bench.undos], [["c"], 7])

    def test_in_time(self):
        bench = Bench(5)
        games = [*some_games(5, 4, 10 ** 30, seed=139), *calm_games(5, 4, 10 ** 30, 139)]
        for name, game in zip("abcdefgh", games):
            bench.put(name, game)
        periods = [(name, LONG) for name in bench.names()] * 5
        self.assertLess(seconds(bench.groups), 4)
        self.assertLess(seconds(bench.divided, periods), 4)
        self.assertLess(seconds(bench.total, periods), 2)
        for name in bench.names():
            for call in (bench.calm, bench.least):
                self.assertLess(seconds(call, name), 2)
            self.assertLess(seconds(bench.same, name, "a"), 2)
            self.assertLess(seconds(bench.steady, name, (1, 3)), 2)


if __name__ == "__main__":
    unittest.main()
