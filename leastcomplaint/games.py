"""Games: tables of what each group of up to five players earns by itself."""

from leastcomplaint.checks import integer_list, is_group, is_player, plain_integer
from leastcomplaint.errors import BadAmounts, BadOrder, BadPlayers, BadWorths, Mismatch, NoGroup, NoPlayer

MOST_PLAYERS = 5


def is_size(value):
    """Whether a value is a number of players that a game may have."""
    return plain_integer(value) and 1 <= value <= MOST_PLAYERS


def groups(players):
    """The list of all groups of so many players in ascending order."""
    if not is_size(players):
        raise BadPlayers()
    found = []
    for player in range(players):
        found = found + [(*group, player) for group in found] + [(player,)]
    return sorted(found)


def are_worths(players, value):
    """Whether a value is a dict with all groups as keys and an integer for each of them."""
    if not isinstance(value, dict) or len(value) != len(groups(players)):
        return False
    return all([is_group(players, group) and plain_integer(worth) for group, worth in value.items()])


class Game:
    """A number of players and a worth for each group of them; it never changes."""

    def __init__(self, players, worths):
        order = groups(players)
        if not are_worths(players, worths):
            raise BadWorths()
        self.players = players
        self.whole = tuple(range(players))
        # The groups stand here in ascending order: an iteration relies on it.
        self.table = {group: worths[group] for group in order}

    def __len__(self):
        return len(self.table)

    def __getitem__(self, at):
        if not is_group(self.players, at):
            raise NoGroup(at)
        return self.table[at]

    def __iter__(self):
        return iter(self.table)

    def __contains__(self, x):
        return is_group(self.players, x)

    def __eq__(self, other):
        return isinstance(other, Game) and self.table == other.table

    def __add__(self, other):
        if not isinstance(other, Game):
            return NotImplemented
        if self.players != other.players:
            raise Mismatch()
        return Game(self.players, {group: self.table[group] + other.table[group] for group in self.table})

    def __neg__(self):
        return Game(self.players, {group: -self.table[group] for group in self.table})

    def __mul__(self, other):
        return Game(self.players, {group: self.table[group] * other for group in self.table})

    def worths(self):
        """The dict of all worths."""
        return {group: self.table[group] for group in self.table}


def additive(amounts):
    """The game in which each group has the sum of the amounts of its members as its worth."""
    if not integer_list(amounts) or not 1 <= len(amounts) <= MOST_PLAYERS:
        raise BadAmounts()
    players = len(amounts)
    return Game(players, {group: sum([amounts[member] for member in group]) for group in groups(players)})


def shifted(game, amounts):
    """The game with the sum of the amounts of its members added to the worth of each group."""
    if not integer_list(amounts) or len(amounts) != game.players:
        raise BadAmounts()
    return game + additive(amounts)


def worth_for(game, places, group):
    """The worth in a game of all players for whom the members of a group stand."""
    return game[tuple(sorted([player for member in group for player in places[member]]))]


def standing_for(game, places):
    """The game in which player k stands for the players places[k] of a game."""
    players = len(places)
    return Game(players, {group: worth_for(game, places, group) for group in groups(players)})


def part(game, group):
    """The game of the members of a group alone."""
    if group not in game:
        raise NoGroup(group)
    return standing_for(game, [(member,) for member in group])


def turned(game):
    """The game in which a group has what the whole has more than all other players together."""
    most = game[game.whole]
    table = {}
    for group in game:
        others = tuple([player for player in game.whole if player not in group])
        # Nobody is left beside the whole, and nobody is not a group.
        table[group] = most if group == game.whole else most - game[others]
    return Game(game.players, table)


def put_together(game, one, other):
    """The game in which two players have become one, at the lesser of the two numbers."""
    if not is_player(game.players, one):
        raise NoPlayer(one)
    if not is_player(game.players, other) or other == one:
        raise NoPlayer(other)
    places = [(player,) for player in range(game.players)]
    places[min(one, other)] = (one, other)
    del places[max(one, other)]
    return standing_for(game, places)


def is_order(game, value):
    """Whether a value is a list that has each player of a game just once."""
    return integer_list(value) and sorted(value) == list(game.whole)


def renamed(game, order):
    """The game in which player k is the player order[k] of a game."""
    if not is_order(game, order):
        raise BadOrder()
    return standing_for(game, [(player,) for player in order])
