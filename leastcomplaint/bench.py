"""A bench of named games, on which changes can be taken back and done again, and tried."""

from leastcomplaint.calm import calm_division
from leastcomplaint.checks import plain_integer
from leastcomplaint.compared import groups_same, same_divisions
from leastcomplaint.errors import (
    BadName, BadPlayers, BadShares, Mismatch, NameTaken, NoGroup, NothingToRedo, NothingToUndo, UnknownName,
)
from leastcomplaint.games import Game, additive, is_size, shifted
from leastcomplaint.least import least_division
from leastcomplaint.ratios import added, times
from leastcomplaint.steady import steady_worths

LONGEST_NAME = 8


def is_name(value):
    """Whether a value is a string of 1 to 8 letters from a to z."""
    if not isinstance(value, str) or not 1 <= len(value) <= LONGEST_NAME:
        return False
    return all(["a" <= letter <= "z" for letter in value])


def is_period(value):
    """Whether a value is a tuple of a string and an integer of at least 1."""
    if not isinstance(value, tuple) or len(value) != 2 or not isinstance(value[0], str):
        return False
    return plain_integer(value[1]) and value[1] >= 1


def are_periods(value):
    """Whether a value is a list of tuples of a string and an integer of at least 1."""
    return isinstance(value, (list, tuple)) and all([is_period(item) for item in value])


class Moment:
    """The games of a bench, those ahead of each change that can be taken back, and those behind each one to redo.

    Neither the dicts of games nor the lists of them are ever modified: whoever keeps a moment can go back to it.
    """

    def __init__(self, games, past, ahead):
        self.games = games
        self.past = past
        self.ahead = ahead


class Block:
    """The moment at which a block of a trial began, and the block of the same trial around it, or None."""

    def __init__(self, moment, outer):
        self.moment = moment
        self.outer = outer


class Trial:
    """What a with block takes: behind the block the bench is as it was when the block began."""

    def __init__(self, bench):
        self.bench = bench
        self.block = None

    def __enter__(self):
        self.block = Block(self.bench.now, self.block)
        return self.bench

    def __exit__(self, kind, value, trace):
        self.bench.now = self.block.moment
        self.block = self.block.outer


class Bench:
    """Named games of so many players."""

    def __init__(self, players):
        if not is_size(players):
            raise BadPlayers()
        self.players = players
        self.now = Moment({}, [], [])

    @property
    def undos(self):
        """The number of the changes that can be taken back."""
        return len(self.now.past)

    @property
    def redos(self):
        """The number of the changes that can be done again."""
        return len(self.now.ahead)

    def __len__(self):
        return len(self.now.games)

    def __contains__(self, x):
        return isinstance(x, str) and x in self.now.games

    def __getitem__(self, at):
        if at not in self:
            raise UnknownName(at)
        return self.now.games[at]

    def __iter__(self):
        raise TypeError("a bench is not iterated over, but its names are")

    def names(self):
        """The ascending list of the names."""
        return sorted(list(self.now.games))

    def others(self, name):
        """The dict of all games but one."""
        return {other: game for other, game in self.now.games.items() if other != name}

    def become(self, games):
        """Have other games from now on, as one change."""
        self.now = Moment(games, [*self.now.past, self.now.games], [])

    def keep(self, name, game):
        """Have a game under a name, new or in the place of another game, as one change."""
        games = self.others(name)
        games[name] = game
        self.become(games)

    def forget(self):
        """Keep the games, but no change that can be taken back or done again."""
        self.now = Moment(self.now.games, [], [])

    def put(self, name, game):
        """Put a game on the bench under a new name."""
        if not is_name(name):
            raise BadName(name)
        if name in self:
            raise NameTaken(name)
        if game.players != self.players:
            raise Mismatch()
        self.keep(name, game)

    def join(self, new, one, other):
        """Put the sum of two games of the bench on it under a new name."""
        self.put(new, self[one] + self[other])

    def scale(self, name, factor):
        """Multiply all worths of a game."""
        self.keep(name, self[name] * factor)

    def shift(self, name, amounts):
        """Add to the worth of each group of a game the sum of the amounts of its members."""
        self.keep(name, shifted(self[name], amounts))

    def change(self, name, group, worth):
        """Replace one worth of a game."""
        worths = self[name].worths()
        if group not in self[name]:
            raise NoGroup(group)
        worths[group] = worth
        self.keep(name, Game(self.players, worths))

    def rename(self, name, new):
        """Give a game another name, or the name that it has."""
        game = self[name]
        if not is_name(new):
            raise BadName(new)
        if new != name and new in self:
            raise NameTaken(new)
        games = self.others(name)
        games[new] = game
        self.become(games)

    def drop(self, name):
        """Remove a game."""
        if name not in self:
            raise UnknownName(name)
        self.become(self.others(name))

    def undo(self):
        """Take back the last change that was not taken back."""
        now = self.now
        if len(now.past) == 0:
            raise NothingToUndo()
        self.now = Moment(now.past[-1], now.past[:-1], [*now.ahead, now.games])

    def redo(self):
        """Do again the change that was taken back last."""
        now = self.now
        if len(now.ahead) == 0:
            raise NothingToRedo()
        self.now = Moment(now.ahead[-1], [*now.past, now.games], now.ahead[:-1])

    def calm(self, name):
        """Whether a game has a calm division."""
        return calm_division(self[name]) is not None

    def least(self, name):
        """The least division of a game."""
        return least_division(self[name])

    def same(self, one, other):
        """Whether two games have the same calm divisions."""
        return same_divisions(self[one], self[other])

    def groups(self):
        """The names, parted into lists of those of games with the same calm divisions."""
        names = self.names()
        return [[names[index] for index in part] for part in groups_same([self[name] for name in names])]

    def steady(self, name, group):
        """The least and the greatest worth of a group with which the least division stays; None for no least one."""
        return steady_worths(self[name], group)

    def trial(self):
        """An object for a with block, behind which the bench is as it was."""
        return Trial(self)

    def tried(self, names, deed):
        """What a function gives for the bench in a trial in which only some games are left."""
        for name in names:
            if name not in self:
                raise UnknownName(name)
        dropped = [name for name in self.names() if name not in names]
        with self.trial() as bench:
            for name in dropped:
                bench.drop(name)
            return deed(bench)

    def total(self, periods):
        """The game of all periods: the sum of the games, each as often as its period is long."""
        if not are_periods(periods):
            raise BadShares()
        found = additive([0] * self.players)
        for name, length in periods:
            found = found + self[name] * length
        return found

    def divided(self, periods):
        """The list of what the players get in all periods, each divided as complaints are least."""
        if not are_periods(periods):
            raise BadShares()
        lists = [[times((length, 1), one) for one in self.least(name)] for name, length in periods]
        return [added([amounts[player] for amounts in lists]) for player in range(self.players)]
