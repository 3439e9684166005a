"""Games for the tests that are made with the help of the package."""

from leastcomplaint.bounds import needed
from leastcomplaint.games import Game
from reckoning import some_games


def calm_games(players, many, most, seed):
    """Games with calm divisions; in some of them there is just one."""
    found = []
    for k, game in enumerate(some_games(players, many, most, seed)):
        lack = needed(game)
        worths = game.worths()
        if lack is not None and (lack[0] > 0 or k % 5 == 0):
            worths = {group: worth * lack[1] for group, worth in worths.items()}
            worths[game.whole] += lack[0]
        found.append(Game(players, worths))
    return found
