"""Points 13 and 141 to 143: texts of games, divisions, families and benches, and reports."""

import copy
import math
import random
import re
import unittest
from fractions import Fraction

from leastcomplaint.bench import Bench
from leastcomplaint.bounds import greatest_amount, least_amount
from leastcomplaint.calm import calm_division, calm_to, family_against
from leastcomplaint.divisions import even_division
from leastcomplaint.errors import BadLine, BadName, NameTaken
from leastcomplaint.games import Game, additive
from leastcomplaint.least import least_division
from leastcomplaint.notation import (
    division_text, family_text, read_bench, read_division, read_family, read_game, report, text_of,
)
from reckoning import LONG, all_groups, as_ratio, game_of, seconds, some_games
from samples import calm_games

INTEGER = r"(0|-?[1-9][0-9]{0,29})"
OPENINGS = {"game": read_game, "division": read_division, "family": read_family, "bench": read_bench}


def group_word(group):
    return ",".join(map(str, group))


def expected_entry(line, players, earlier):
    """The group and the integer of a line, or None; by a pattern."""
    found = re.fullmatch(r"([0-4](?:,[0-4])*) " + INTEGER, line)
    if not found:
        return None
    group = tuple(int(word) for word in found[1].split(","))
    if group not in all_groups(players) or group in earlier:
        return None
    return group, int(found[2])


def expected_worths(lines, start, players):
    """The worths that lines tell, or the number of the first wrong line."""
    worths = {}
    for at in range(start, start + 2 ** players - 1):
        entry = expected_entry(lines[at], players, worths) if at < len(lines) else None
        if entry is None:
            return at + 1
        worths[entry[0]] = entry[1]
    return worths


def expected_game(text):
    lines = text.split("\n")
    if not re.fullmatch("game [1-5]", lines[0]):
        return 1
    players = int(lines[0][5:])
    worths = expected_worths(lines, 1, players)
    if isinstance(worths, int):
        return worths
    return worths if len(lines) == 2 ** players else 2 ** players + 1


def expected_division(text):
    lines = text.split("\n")
    ratio = r"(0|-?[1-9][0-9]*)(/[1-9][0-9]*)?"
    if not re.fullmatch(f"division( {ratio}){{1,5}}", lines[0]):
        return 1
    found = []
    for word in lines[0].split(" ")[1:]:
        top, stroke, bottom = word.partition("/")
        if len(word) > 60 or bottom == "1" or stroke and math.gcd(int(top), int(bottom)) != 1:
            return 1
        found.append((int(top), int(bottom or 1)))
    return found if len(lines) == 1 else 2


def expected_family(text):
    lines = text.split("\n")
    if lines[0] != "family":
        return 1
    family = {}
    for at, line in enumerate(lines[1:]):
        entry = expected_entry(line, 5, family)
        if entry is None or entry[1] < 1:
            return at + 2
        family[entry[0]] = entry[1]
    return family


def expected_bench(text):
    """The games by names, the number of the first wrong line, or the error of a name."""
    lines = text.split("\n")
    if not re.fullmatch("bench [1-5]", lines[0]):
        return 1
    players, at, told = int(lines[0][6:]), 1, []
    while at < len(lines):
        found = re.fullmatch("put ([^ ]+)", lines[at])
        if not found:
            return at + 1
        worths = expected_worths(lines, at + 1, players)
        if isinstance(worths, int):
            return worths
        told.append((found[1], worths))
        at += 2 ** players
    games = {}
    for name, worths in told:
        if not re.fullmatch("[a-z]{1,8}", name):
            return BadName, name
        if name in games:
            return NameTaken, name
        games[name] = worths
    return games


EXPECTED = {"game": expected_game, "division": expected_division, "family": expected_family, "bench": expected_bench}


def some_bench(players, many, most=30, seed=141):
    bench = Bench(players)
    for name, game in zip(("b", "a", "abcdefgh", "zz"), some_games(players, many, most, seed)):
        bench.put(name, game)
    return bench


def some_texts():
    """Right texts of each kind."""
    source = random.Random(141)
    found = []
    for players in range(1, 6):
        for game in some_games(players, 2, 1000, seed=141):
            found += [("game", text_of(game)), ("division", division_text(least_division(game)))]
            family = {group: source.randint(1, 1000) for group in source.sample(all_groups(players), 2 ** players // 2)}
            found.append(("family", family_text(family)))
        found += [("bench", text_of(some_bench(players, many))) for many in range(3)]
    return found


def spoiled(text, source):
    """A text that differs in little from a right one; it may be right, too."""
    lines = text.split("\n")
    at, other = source.randrange(len(lines)), source.randrange(len(lines))
    kind = source.randrange(10)
    if kind == 0:
        del lines[at]
    elif kind == 1:
        lines.insert(other, lines[at])
    elif kind == 2:
        lines[at], lines[other] = lines[other], lines[at]
    elif kind == 3:
        lines.insert(at, source.choice(["", " ", "0 1", "put a", "0,1 5", "x", "game 2", "bench 2", "family"]))
    elif kind == 4:
        words = lines[at].split(" ")
        words.insert(source.randrange(len(words) + 1), source.choice(["", "0", "7", "a", "1/2", "-1", "0,1"]))
        lines[at] = " ".join(words)
    elif kind == 5:
        lines += lines[1:]
    else:
        text = lines[at]
        place = source.randrange(len(text) + 1)
        sign = source.choice(["", "", " ", "0", "1", "5", "9", "-", "+", ",", "/", "a", "A", "\n", ".", "_", "put "])
        lines[at] = text[:place] + sign + text[place + source.randrange(2):]
    return "\n".join(lines)


class Interface(unittest.TestCase):
    def test_texts(self):
        game = game_of(2, 3, 4, 2)
        self.assertEqual(
            [text_of(game), division_text([(5, 2), (3, 2)]), family_text({(1,): 2, (0,): 1}),
             read_family("family\n0,1 7")],
            ["game 2\n0 3\n0,1 4\n1 2", "division 5/2 3/2", "family\n0 1\n1 2", {(0, 1): 7}],
        )

    def test_wrong_line(self):
        with self.assertRaises(BadLine) as caught:
            read_game("game 2\n0 3\n1,0 4\n1 2")
        self.assertEqual(caught.exception.line, 3)

    def test_report(self):
        self.assertEqual(report(game_of(2, 3, 4, 2)), "calm no\nladder 0\nleast 5/2 3/2")


class Written(unittest.TestCase):
    def test_games(self):
        for players in range(1, 6):
            for most in (5, 1000, LONG):
                for game in some_games(players, 4, most, seed=142):
                    lines = [f"game {players}", *[f"{group_word(x)} {game[x]}" for x in all_groups(players)]]
                    self.assertEqual(text_of(game), "\n".join(lines))
                    self.assertEqual(read_game(text_of(thing=game)), game)
        self.assertEqual(text_of(game_of(1, 0)), "game 1\n0 0")
        self.assertEqual(text_of(game_of(1, -7)), "game 1\n0 -7")

    def test_benches(self):
        for players in range(1, 6):
            for many in range(5):
                bench = some_bench(players, many)
                lines = [f"bench {players}"]
                for name in sorted(bench.names()):
                    lines.append(f"put {name}")
                    lines += [f"{group_word(x)} {bench[name][x]}" for x in all_groups(players)]
                before = [bench.undos, bench.redos, bench.names()]
                self.assertEqual(text_of(bench), "\n".join(lines))
                self.assertEqual([bench.undos, bench.redos, bench.names()], before)
                found = read_bench(text=text_of(bench))
                self.assertEqual([type(found), found.players, found.names()], [Bench, players, bench.names()])
                self.assertEqual([found[name] for name in found.names()], [bench[name] for name in bench.names()])
                self.assertEqual([found.undos, found.redos], [0, 0])
        self.assertEqual(text_of(Bench(3)), "bench 3")

    def test_divisions(self):
        for players in range(1, 6):
            for game in some_games(players, 6, 1000, seed=143):
                for division in (even_division(game), least_division(game)):
                    words = [str(Fraction(*one)) for one in division]
                    self.assertEqual(division_text(division), " ".join(["division", *words]))
                    self.assertEqual(division_text(tuple(division)), division_text(division))
                    self.assertEqual(read_division(text=division_text(division=division)), division)
        self.assertEqual(division_text([(0, 1), (-1, 2), (LONG, 3)]), f"division 0 -1/2 {LONG}/3")

    def test_families(self):
        for family in ({}, {(0,): 1}, {(4,): 3, (0, 4): LONG, (0, 1, 2, 3, 4): 2, (0,): 1000},
                       family_against(game_of(3, 0, 4, 5, 4, 0, 4, 0)), dict.fromkeys(reversed(all_groups(5)), 7)):
            lines = ["family", *[f"{group_word(group)} {family[group]}" for group in sorted(family)]]
            self.assertEqual(family_text(family), "\n".join(lines))
            self.assertEqual(family_text(family=dict(reversed(family.items()))), family_text(family))
            self.assertEqual(read_family(text=family_text(family)), family)

    def test_very_long_integers(self):
        """Longer ones than Python itself writes at once."""
        game = game_of(1, 10 ** 6000 + 1)
        self.assertEqual(text_of(game), "game 1\n0 1" + "0" * 5999 + "1")
        self.assertEqual(family_text({(0,): 10 ** 6000}), "family\n0 1" + "0" * 6000)
        self.assertEqual(division_text([(-10 ** 6000, 3)]), "division -1" + "0" * 6000 + "/3")

    def test_arguments_stay(self):
        family, division = {(1,): 2, (0,): 1}, [(1, 2), (3, 1)]
        kept = copy.deepcopy([family, division])
        family_text(family)
        division_text(division)
        self.assertEqual([list(family), family, division], [[(1,), (0,)], *kept])


class Read(unittest.TestCase):
    def assert_wrong(self, call, line, text):
        with self.subTest(text=text):
            with self.assertRaises(BadLine) as caught:
                call(text)
            self.assertEqual([type(caught.exception.line), caught.exception.line], [int, line])

    def test_spoiled_texts(self):
        """Texts that differ in little from right ones, against patterns."""
        source = random.Random(142)
        lines = set()
        for kind, text in some_texts():
            for times in range(160 if len(text) > 40 else 80):
                other = spoiled(text, source)
                if source.randrange(4) == 0:
                    other = spoiled(other, source)
                self.assert_told(kind, other, lines)
        self.assertTrue(lines >= {(kind, line) for kind in ("game", "family", "bench") for line in range(1, 16)})
        self.assertTrue({("division", 1), ("division", 2), BadName, NameTaken} <= lines)

    def assert_told(self, kind, text, lines):
        expected = EXPECTED[kind](text)
        if isinstance(expected, int):
            self.assert_wrong(OPENINGS[kind], expected, text)
            lines.add((kind, expected))
        elif isinstance(expected, tuple):
            with self.subTest(text=text), self.assertRaises(expected[0]) as caught:
                read_bench(text)
            self.assertEqual(caught.exception.name, expected[1])
            lines.add(expected[0])
        elif kind == "bench":
            bench = read_bench(text)
            self.assertEqual({name: bench[name].worths() for name in bench.names()}, expected)
            self.assertEqual([bench.undos, bench.redos], [0, 0])
        else:
            told = OPENINGS[kind](text)
            self.assertEqual(told.worths() if kind == "game" else told, expected)

    def test_first_lines(self):
        for text in ("", " ", "\n", "\n\n", "Game 2", "game", "game ", "game 0", "game 6", "game 02", "game +2", "game -1",
                     "game 2 ", " game 2", "game  2", "game 2 2", "game two", "bench 2", "family", "2 game", "game2",
                     "game 2/1", "game 1" + "0" * 30, "game 2,3", "put a", "\ngame 1\n0 1"):
            self.assert_wrong(read_game, 1, text)
            self.assert_wrong(read_game, 1, text + "\n0 3\n0,1 4\n1 2")
        for text in ("", "\n", "bench", "bench 0", "bench 6", "bench  1", "bench 1 ", "game 1", "Bench 1", "bench 01"):
            self.assert_wrong(read_bench, 1, text)
            self.assert_wrong(read_bench, 1, text + "\nput a\n0 1")
        for text in ("", "\n", "family ", " family", "Family", "family 1", "families", "game 1", "0 1"):
            self.assert_wrong(read_family, 1, text)
            self.assert_wrong(read_family, 1, text + "\n0 1")
        for text in ("", "\n", "division", "division ", "division  1", " division 1", "division 1 ", "division 1  2",
                     "Division 1", "1 2", "division 1 2 3 4 5 6", "division one", "division 1/1", "division 2/4",
                     "division 0/1", "division 0/3", "division -0", "division +1", "division 01", "division 1/02",
                     "division 1/0", "division 1/-2", "division 1 2 /3", "division 3/2/1", "division 1.0", "division 1,2",
                     "division " + "1" * 61, "division " + "1" * 30 + "/" + "2" * 30, "family 1"):
            self.assert_wrong(read_division, 1, text)
            self.assert_wrong(read_division, 1, text + "\ndivision 1")

    def test_missing_and_superfluous_lines(self):
        for players in range(1, 6):
            lines = text_of(some_games(players, 1, 100, seed=144)[0]).split("\n")
            for many in range(1, len(lines)):
                self.assert_wrong(read_game, many + 1, "\n".join(lines[:many]))
                self.assert_wrong(read_game, many + 1, "\n".join(lines[:many]) + "\n")
            for more in ("", " ", "0 1", "game 1", "\n", "\n0 1"):
                self.assert_wrong(read_game, len(lines) + 1, "\n".join([*lines, more]))
            lines = text_of(some_bench(players, 2)).split("\n")
            for many in range(1, len(lines)):
                text = "\n".join(lines[:many])
                if many not in (1, 1 + 2 ** players):
                    self.assert_wrong(read_bench, many + 1, text)
                else:
                    self.assertEqual(len(read_bench(text)), many // 2 ** players)
                self.assert_wrong(read_bench, many + 1, text + "\n")
            for more in ("", " ", "0 1", "bench 1", "put", "put ", "put  a", "put a ", " put a", "put a b", "Put a"):
                self.assert_wrong(read_bench, len(lines) + 1, "\n".join([*lines, more]))
            self.assert_wrong(read_bench, len(lines) + 2, "\n".join([*lines, "put q"]))
        for more in ("\n", "\n ", "\ndivision 1", "\n\n"):
            self.assert_wrong(read_division, 2, "division 1 2" + more)
        self.assert_wrong(read_family, 2, "family\n")
        self.assert_wrong(read_family, 4, "family\n0 1\n1 1\n")

    def test_wrong_lines(self):
        right = ["0 3", "0,1 4", "1 2"]
        for at in range(3):
            for line in ("", " ", "0", "2 5", "0,2 5", "1,0 5", "0,0 5", "0,1,2 5", "0, 1 5", "0,1, 5", ",0 5", "00 5",
                         "-0 5", "+0 5", "0,01 5", "a 5", "5", "0 a", "0 5 5", "0  5", " 0 5", "0 5 ", "0\t5", "0,1 +5",
                         "0,1 05", "0,1 -0", "0,1 00", "0,1 5/2", "0,1 5.0", "0,1 --5", "0,1 5-", "0,1 -", "0,1 1_0",
                         "0,1 " + "1" * 31, "0,1 -" + "1" * 31, "0.1 5", "0;1 5", "put a", "game 2", "0,1 1,2"):
                lines = [*right[:at], line, *right[at + 1:]]
                # Ahead of the wrong line the others are right; a group that stands there already is wrong as well.
                self.assert_wrong(read_game, at + 2, "\n".join(["game 2", *lines]))
                self.assert_wrong(read_bench, at + 3, "\n".join(["bench 2", "put a", *lines]))
                self.assert_wrong(read_bench, at + 7, "\n".join(["bench 2", "put a", *right, "put a", *lines]))

    def test_a_line_twice(self):
        self.assert_wrong(read_game, 3, "game 2\n0 3\n0 3\n1 2")
        self.assert_wrong(read_game, 4, "game 2\n0,1 3\n0 3\n0,1 4")
        self.assert_wrong(read_family, 4, "family\n0 3\n1 3\n0 4")
        self.assert_wrong(read_bench, 4, "bench 1\nput a\n0 3\n0 3")
        self.assert_wrong(read_bench, 5, "bench 2\nput a\n0 3\n1 3\n1 3\nput b")
        # The same group may stand in another game.
        self.assertEqual(read_bench("bench 1\nput a\n0 3\nput b\n0 3").names(), ["a", "b"])

    def test_any_order(self):
        self.assertEqual(read_game("game 2\n1 2\n0,1 4\n0 3"), game_of(2, 3, 4, 2))
        self.assertEqual(read_family("family\n4 2\n0,4 1\n0 3"), {(0,): 3, (0, 4): 1, (4,): 2})
        bench = read_bench("bench 1\nput z\n0 1\nput a\n0 2\nput m\n0 3")
        self.assertEqual([bench.names(), bench["z"], bench["a"]], [["a", "m", "z"], game_of(1, 1), game_of(1, 2)])

    def test_weights(self):
        for word in ("0", "-1", "-5", "a", "1/2", "01", "1" * 31):
            self.assert_wrong(read_family, 3, f"family\n0 1\n1 {word}\n2 1")
        for word in ("5", "0,5", "1,0", "", "0,1,2,3,4,5"):
            self.assert_wrong(read_family, 3, f"family\n0 1\n{word} 3\n2 1")
        self.assertEqual(read_family("family"), {})
        self.assertEqual(read_family("family\n0,1,2,3,4 1"), {(0, 1, 2, 3, 4): 1})

    def test_thirty_digits(self):
        most = int("9" * 30)
        for worth in (most, -most, 10 ** 29, -10 ** 29):
            self.assertEqual(read_game(f"game 1\n0 {worth}"), game_of(1, worth))
            self.assertEqual(read_bench(f"bench 1\nput a\n0 {worth}")["a"], game_of(1, worth))
        self.assertEqual(read_family(f"family\n0 {most}"), {(0,): most})
        for worth in (most + 1, -most - 1, 10 ** 40, -10 ** 40):
            self.assert_wrong(read_game, 2, text_of(game_of(1, worth)))
            self.assert_wrong(read_bench, 3, f"bench 1\nput a\n0 {worth}")
        self.assert_wrong(read_family, 2, f"family\n0 {most + 1}")
        long = 10 ** 59 + 1
        self.assertEqual(read_division(f"division {long} 1"), [(long, 1), (1, 1)])
        self.assertEqual(read_division(f"division {10 ** 28}/{10 ** 29 + 1}"), [(10 ** 28, 10 ** 29 + 1)])
        self.assert_wrong(read_division, 1, f"division -{10 ** 28}/{10 ** 29 + 1}")
        self.assert_wrong(read_division, 1, f"division {10 ** 60}")
        self.assert_wrong(read_division, 1, f"division -{long}")

    def test_names_behind_the_lines(self):
        for name in ("A", "abcdefghi", "put", "a1", "-", "0", "0,1", "{}"):
            text = f"bench 1\nput b\n0 1\nput {name}\n0 2\nput b\n0 3"
            if name == "put":
                with self.assertRaises(NameTaken):
                    read_bench(text)
                continue
            with self.assertRaises(BadName) as caught:
                read_bench(text)
            self.assertEqual(caught.exception.name, name)
            # A wrong line counts first, also behind it.
            self.assert_wrong(read_bench, 8, text + "\n")
            self.assert_wrong(read_bench, 7, text[:-2])
        with self.assertRaises(NameTaken) as caught:
            read_bench("bench 1\nput b\n0 1\nput a\n0 2\nput b\n0 3\nput A\n0 3")
        self.assertEqual(caught.exception.name, "b")
        with self.assertRaises(BadName) as caught:
            read_bench("bench 1\nput b\n0 1\nput AA\n0 2\nput b\n0 3\nput A\n0 3")
        self.assertEqual(caught.exception.name, "AA")
        self.assert_wrong(read_bench, 4, "bench 1\nput b\n0 1\n0 2")

    def test_results_are_new(self):
        first = [read_division("division 1 2"), read_family("family\n0 1"), read_bench("bench 1\nput a\n0 1")]
        first[0].clear()
        first[1].clear()
        first[2].drop("a")
        self.assertEqual([read_division("division 1 2"), read_family("family\n0 1")], [[(1, 1), (2, 1)], {(0,): 1}])
        self.assertEqual(read_bench("bench 1\nput a\n0 1").names(), ["a"])

    def test_a_bench_that_is_read_changes(self):
        bench = read_bench("bench 2\nput a\n0 1\n1 2\n0,1 5")
        bench.scale("a", 2)
        self.assertEqual([bench.undos, bench["a"]], [1, game_of(2, 2, 10, 4)])
        bench.undo()
        self.assertEqual([bench.undos, bench.redos, bench["a"]], [0, 1, game_of(2, 1, 5, 2)])


class Reports(unittest.TestCase):
    def test_lines(self):
        kinds = set()
        for players in range(1, 6):
            for game in [*some_games(players, 8, 20, seed=145), *calm_games(players, 6, 20, 145)]:
                calm = calm_division(game) is not None
                lines = [f"calm {'yes' if calm else 'no'}", f"ladder {calm_to(game)}",
                         " ".join(["least", *[str(Fraction(*one)) for one in least_division(game)]])]
                for player in game.whole if calm else ():
                    low, high = least_amount(game, (player,)), greatest_amount(game, (player,))
                    lines.append(f"player {player} {Fraction(*low)} {Fraction(*high)}")
                self.assertEqual(report(game), "\n".join(lines))
                kinds.add((players, calm))
        self.assertEqual(len(kinds), 9)

    def test_by_hand(self):
        self.assertEqual(report(game_of(3, 0, 4, 7, 4, 0, 4, 0)),
                         "calm yes\nladder 3\nleast 7/3 7/3 7/3\nplayer 0 1 3\nplayer 1 1 3\nplayer 2 1 3")
        self.assertEqual(report(game_of(3, 0, 4, 5, 4, 0, 4, 0)), "calm no\nladder 1\nleast 5/3 5/3 5/3")
        self.assertEqual(report(game=game_of(1, -3)), "calm yes\nladder 1\nleast -3\nplayer 0 -3 -3")
        self.assertEqual(report(additive([1, -2])), "calm yes\nladder 2\nleast 1 -2\nplayer 0 1 1\nplayer 1 -2 -2")

    def test_in_time(self):
        for game in [*some_games(5, 3, 10 ** 30, seed=146), *calm_games(5, 2, 10 ** 30, 146)]:
            self.assertLess(seconds(report, game), 3)
        bench = some_bench(5, 4, 10 ** 25)
        self.assertLess(seconds(text_of, bench), 1)
        self.assertLess(seconds(read_bench, text_of(bench)), 2)
        for call, text in ((read_game, "game 5\n" * 1700), (read_family, "family\n" + "0," * 5900), (read_division,
                           "division " + "1/" * 5900), (read_bench, "bench 5\n" + "put " * 2900)):
            self.assertLess(seconds(lambda: self.assertRaises(BadLine, call, text)), 1)

    def test_ratios_in_lowest_terms(self):
        game = Game(5, {group: 7 if len(group) == 2 else 0 for group in all_groups(5)} | {(0, 1, 2, 3, 4): 18})
        self.assertEqual(report(game).split("\n")[2], "least 18/5 18/5 18/5 18/5 18/5")
        self.assertEqual(as_ratio(Fraction(36, 10)), (18, 5))


if __name__ == "__main__":
    unittest.main()
