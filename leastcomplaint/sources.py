"""Games that always have calm divisions: markets of pairs, and places that are linked to a source."""

from leastcomplaint.checks import integer_list
from leastcomplaint.divisions import is_calm_division
from leastcomplaint.errors import BadGains, BadLinks, NotCalm
from leastcomplaint.games import MOST_PLAYERS, Game, groups
from leastcomplaint.ratios import compare

GREATEST_NUMBER = 1000
SOURCE = -1


def are_small(value, many):
    """Whether a value is a list of so many integers from 0 to 1000."""
    if not integer_list(value) or len(value) != many:
        return False
    return all([0 <= number <= GREATEST_NUMBER for number in value])


def are_gains(value):
    """Whether a value is a list with a row for each seller, a list of what they gain with each buyer."""
    if not isinstance(value, (list, tuple)) or len(value) == 0:
        return False
    if not isinstance(value[0], (list, tuple)) or not 1 <= len(value[0]) <= MOST_PLAYERS - len(value):
        return False
    return all([are_small(row, len(value[0])) for row in value])


def gain_of(gains, pairing):
    """The sum of the gains of a pairing."""
    return sum([gains[seller][buyer - len(gains)] for seller, buyer in pairing])


def pairing_of(gains, sellers, buyers):
    """An ascending pairing of some sellers and buyers with the greatest sum of gains, in which no pair gains 0."""
    if len(sellers) == 0:
        return []
    first, *others = sellers
    best = pairing_of(gains, others, buyers)
    for buyer in buyers:
        rest = pairing_of(gains, others, [other for other in buyers if other != buyer])
        # A pair that gains 0 is not worth more than none: so it never comes in.
        if gain_of(gains, [(first, buyer), *rest]) > gain_of(gains, best):
            best = [(first, buyer), *rest]
    return best


def pairing_in(gains, group):
    """An ascending pairing of some members of a group with the greatest sum of gains, in which no pair gains 0."""
    sellers = [player for player in group if player < len(gains)]
    return pairing_of(gains, sellers, list(group[len(sellers):]))


def market(gains):
    """The game in which a group earns the greatest sum of gains of a pairing of some of its members."""
    if not are_gains(gains):
        raise BadGains()
    players = len(gains) + len(gains[0])
    return Game(players, {group: gain_of(gains, pairing_in(gains, group)) for group in groups(players)})


def best_pairing(gains):
    """An ascending pairing of all players with the greatest sum of gains, in which no pair gains 0."""
    return pairing_in(gains, market(gains).whole)


def greatest_amounts(gains):
    """For each player the greatest amount in a calm division: the worth of the whole less that of all others."""
    game = market(gains)
    others = [tuple([other for other in game.whole if other != player]) for player in game.whole]
    return [game[game.whole] - game[group] for group in others]


def best_for_sellers(gains):
    """The calm division of a market that is best for all sellers at once."""
    amounts = greatest_amounts(gains)
    # In a calm division the two of a pair share just what they gain, and who is in no pair gets nothing.
    for seller, buyer in best_pairing(gains):
        amounts[buyer] = gain_of(gains, [(seller, buyer)]) - amounts[seller]
    return [(one, 1) for one in amounts]


def best_for_buyers(gains):
    """The calm division of a market that is best for all buyers at once."""
    amounts = greatest_amounts(gains)
    for seller, buyer in best_pairing(gains):
        amounts[seller] = gain_of(gains, [(seller, buyer)]) - amounts[buyer]
    return [(one, 1) for one in amounts]


def sellers_better(gains, one, other):
    """What gives each seller the greater one of the ratios of two calm divisions, and each buyer the lesser one."""
    game = market(gains)
    if not is_calm_division(game, one) or not is_calm_division(game, other):
        raise NotCalm()
    found = []
    for player, left, right in zip(game.whole, one, other):
        wanted = 1 if player < len(gains) else -1
        found.append(left if compare(left, right) == wanted else right)
    return found


def are_links(direct, between):
    """Whether two lists tell the costs of links from the source and between places, the same in both directions."""
    if not isinstance(direct, (list, tuple)) or not isinstance(between, (list, tuple)):
        return False
    places = len(direct)
    if not 1 <= places <= MOST_PLAYERS or len(between) != places:
        return False
    if not all([are_small(costs, places) for costs in [direct, *between]]):
        return False
    rows = [tuple(row) for row in between]
    return list(zip(*rows)) == rows and all([row[place] == 0 for place, row in enumerate(rows)])


def link_cost(direct, between, place, nearer):
    """What a link from a place to another one, or to the source, costs."""
    return direct[place] if nearer == SOURCE else between[place][nearer]


def links_of(direct, between, group):
    """The links (place, nearer) of the members of a group with the least sum of costs, in the order in which they come.

    Of the places that are not linked yet, the one that is nearest to the source or to a linked place always comes next.
    """
    nearest = {place: SOURCE for place in group}
    links = []
    while nearest:
        options = [(link_cost(direct, between, place, nearer), place) for place, nearer in nearest.items()]
        place = min(options)[1]
        links.append((place, nearest[place]))
        nearest = {
            other: place if between[other][place] < cost else nearest[other]
            for cost, other in options if other != place
        }
    return links


def links_cost(direct, between, links):
    """The sum of the costs of some links."""
    return sum([link_cost(direct, between, place, nearer) for place, nearer in links])


def linked(direct, between):
    """The game in which a group loses the least sum of costs by which all its members are linked to the source."""
    if not are_links(direct, between):
        raise BadLinks()
    players = len(direct)
    return Game(players, {group: -links_cost(direct, between, links_of(direct, between, group))
                          for group in groups(players)})


def least_links(direct, between):
    """The links (place, nearer) of all places with the least sum of costs, in the order of the places."""
    if not are_links(direct, between):
        raise BadLinks()
    return sorted(links_of(direct, between, list(range(len(direct)))))


def tree_division(direct, between):
    """The division in which each place pays for its link in the list of the least links."""
    return [(-link_cost(direct, between, place, nearer), 1) for place, nearer in least_links(direct, between)]
