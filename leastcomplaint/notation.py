"""Texts of games, lists of ratios, families and benches, and what such texts describe."""

from leastcomplaint.bench import Bench
from leastcomplaint.bounds import greatest_amount, least_amount
from leastcomplaint.calm import calm_division, calm_to
from leastcomplaint.errors import BadLine, BadText
from leastcomplaint.games import MOST_PLAYERS, Game, groups, is_size
from leastcomplaint.least import least_division
from leastcomplaint.ratios import integer_text, is_digits, ratio_text, read_ratio

MOST_DIGITS = 30


def group_lines(table):
    """A line for each group of a dict, with the group and its integer, in ascending order."""
    found = []
    for group in sorted(list(table)):
        members = ",".join([str(member) for member in group])
        found.append(f"{members} {integer_text(table[group])}")
    return found


def text_of(thing):
    """The text of a game or of a bench."""
    if isinstance(thing, Game):
        return "\n".join([f"game {thing.players}", *group_lines(thing.worths())])
    lines = [f"bench {thing.players}"]
    for name in thing.names():
        lines += [f"put {name}", *group_lines(thing[name].worths())]
    return "\n".join(lines)


def division_text(division):
    """The text of a list of ratios."""
    return " ".join(["division", *[ratio_text(one) for one in division]])


def family_text(family):
    """The text of a family, or of another dict from groups to integers."""
    return "\n".join(["family", *group_lines(family)])


def integer_of(word):
    """The integer that a word is, or None."""
    digits = word.removeprefix("-")
    if not is_digits(digits) or len(digits) > MOST_DIGITS:
        return None
    number = int(word)
    # An integer has just one text: this refuses all other ways to write it.
    return number if integer_text(number) == word else None


def group_of(word, players):
    """The group of so many players that a word is, or None."""
    members = [integer_of(part) for part in word.split(",")]
    group = tuple(members)
    return group if group in groups(players) else None


def ratio_of(word):
    """The ratio that a word is, or None."""
    try:
        return read_ratio(word)
    except BadText:
        return None


def words_at(lines, at):
    """The words of a line; behind the last line one is missing."""
    if at == len(lines):
        raise BadLine(at + 1)
    return lines[at].split(" ")


def read_players(lines, word):
    """The number of players that the first line tells behind a word."""
    words = words_at(lines, 0)
    players = integer_of(words[1]) if len(words) == 2 and words[0] == word else None
    if not is_size(players):
        raise BadLine(1)
    return players


def read_entry(lines, at, players, earlier):
    """The group and the integer that a line tells, as a tuple; the group stands in no earlier line."""
    words = words_at(lines, at)
    if len(words) != 2:
        raise BadLine(at + 1)
    group = group_of(words[0], players)
    number = integer_of(words[1])
    if group is None or group in earlier or number is None:
        raise BadLine(at + 1)
    return (group, number)


def read_worths(lines, start, players):
    """The dict of the worths that the lines from one on tell, one for each group."""
    worths = {}
    for at in range(start, start + len(groups(players))):
        group, worth = read_entry(lines, at, players, worths)
        worths[group] = worth
    return worths


def read_game(text):
    """The game that a text describes."""
    lines = text.split("\n")
    players = read_players(lines, "game")
    worths = read_worths(lines, 1, players)
    end = 1 + len(worths)
    if len(lines) > end:
        raise BadLine(end + 1)
    return Game(players, worths)


def read_division(text):
    """The list of ratios that a text describes."""
    lines = text.split("\n")
    word, *rest = words_at(lines, 0)
    ratios = [ratio_of(one) for one in rest]
    if word != "division" or not 1 <= len(ratios) <= MOST_PLAYERS or None in ratios:
        raise BadLine(1)
    if len(lines) > 1:
        raise BadLine(2)
    return ratios


def read_family(text):
    """The dict from groups to weights that a text describes."""
    lines = text.split("\n")
    if lines[0] != "family":
        raise BadLine(1)
    family = {}
    for at in range(1, len(lines)):
        group, weight = read_entry(lines, at, MOST_PLAYERS, family)
        if weight < 1:
            raise BadLine(at + 1)
        family[group] = weight
    return family


def read_bench(text):
    """The bench that a text describes, without changes that can be taken back."""
    lines = text.split("\n")
    players = read_players(lines, "bench")
    told = []
    at = 1
    while at < len(lines):
        words = words_at(lines, at)
        if len(words) != 2 or words[0] != "put" or words[1] == "":
            raise BadLine(at + 1)
        worths = read_worths(lines, at + 1, players)
        told.append((words[1], Game(players, worths)))
        at += 1 + len(worths)
    bench = Bench(players)
    for name, game in told:
        bench.put(name, game)
    bench.forget()
    return bench


def report(game):
    """A text about the calm divisions and the least division of a game."""
    lines = [f"ladder {calm_to(game)}", " ".join(["least", *[ratio_text(one) for one in least_division(game)]])]
    if calm_division(game) is None:
        return "\n".join(["calm no", *lines])
    for player in game.whole:
        low = ratio_text(least_amount(game, (player,)))
        high = ratio_text(greatest_amount(game, (player,)))
        lines.append(f"player {player} {low} {high}")
    return "\n".join(["calm yes", *lines])
