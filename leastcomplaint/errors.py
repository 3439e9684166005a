"""The errors of the package: all of them are direct subclasses of DivisionError."""


class DivisionError(ValueError):
    """The base class of all errors of the package."""


class BadRatio(DivisionError):
    """The bottom of a ratio is 0."""

    def __init__(self, bottom):
        self.bottom = bottom


class BadText(DivisionError):
    """A text is not that of a ratio."""


class BadPlayers(DivisionError):
    """A number of players is not an integer from 1 to 5."""


class BadWorths(DivisionError):
    """A value does not tell an integer for each group, or tells more than that."""


class BadAmounts(DivisionError):
    """A list does not have a right amount for each player."""


class BadOrder(DivisionError):
    """A list does not have each player just once."""


class BadProgram(DivisionError):
    """Rows, totals and costs do not fit together."""


class BadShares(DivisionError):
    """Shares or periods are not as they have to be."""


class BadName(DivisionError):
    """A string is not a name."""

    def __init__(self, name):
        self.name = name


class BadLine(DivisionError):
    """A line of a text, counted from 1, is not as described."""

    def __init__(self, line):
        self.line = line


class NoGroup(DivisionError):
    """A value is not a group of the game."""

    def __init__(self, group):
        self.group = group


class NoPlayer(DivisionError):
    """A value is not a player of the game, or not another one."""

    def __init__(self, player):
        self.player = player


class NotDivision(DivisionError):
    """A value is not a division of the game."""


class NotFamily(DivisionError):
    """A value is not a family for the game."""


class NotCalm(DivisionError):
    """A value is not a calm division of the game."""


class TooMany(DivisionError):
    """A game has more players than a function takes."""

    def __init__(self, players):
        self.players = players


class Mismatch(DivisionError):
    """Two games or lists are not for as many players."""


class NameTaken(DivisionError):
    """There is a game of this name already."""

    def __init__(self, name):
        self.name = name


class UnknownName(DivisionError):
    """There is no game of this name."""

    def __init__(self, name):
        self.name = name


class NothingToUndo(DivisionError):
    """There is no change that can be taken back."""


class NothingToRedo(DivisionError):
    """There is no change that can be done again."""


class BadGains(DivisionError):
    """A list does not tell the gains of a market."""


class BadLinks(DivisionError):
    """Two lists do not tell the costs of links."""
