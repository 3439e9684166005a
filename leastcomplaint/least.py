"""The division whose complaints are least, with evidence, and moves that lessen the complaints of others."""

from leastcomplaint.bounds import other_groups
from leastcomplaint.calm import is_family
from leastcomplaint.checks import integer_list, is_ratio
from leastcomplaint.covers import member_line, member_rows
from leastcomplaint.divisions import amount_of, complaint_list, complaints, even_division, is_division
from leastcomplaint.equations import are_independent
from leastcomplaint.errors import NotDivision
from leastcomplaint.programs import least
from leastcomplaint.ratios import compare, lowest, ratio, together


def unsettled(game, settled):
    """The groups whose amounts do not follow from those of some groups."""
    lines = [member_line(game, group) for group in settled]
    return [group for group in game if are_independent([*lines, member_line(game, group)])]


def lowered(game, division, settled, rest):
    """A division and a list of groups, as a tuple.

    The division gives the settled groups what they have in a given one, and otherwise makes the greatest complaint of
    the other groups as small as it can be. The groups are some of them that have this complaint in each such division.
    """
    kept = [amount_of(division, group) for group in settled]
    scale, tops = together([(game[group], 1) for group in rest] + kept)
    costs = [-top for top in tops] + tops[len(rest):]
    # The weights of the settled groups may be below 0: so there are two columns for each of them.
    rows = [row + [-number for number in row[len(rest):]] for row in member_rows(game, rest + settled)]
    rows.append([1] * len(rest) + [0] * (2 * len(settled)))
    kind, unit, weights, prices = least(rows, [0] * game.players + [1], costs)
    amounts = [ratio(-price, unit * scale) for price in prices[:-1]]
    return (amounts, [group for group, weight in zip(rest, weights) if weight > 0])


def least_division(game):
    """The division whose list of complaints is not greater than that of any other one."""
    division = even_division(game)
    settled = [game.whole]
    rest = unsettled(game, settled)
    while rest:
        division, bound = lowered(game, division, settled, rest)
        for group in bound:
            if group in unsettled(game, settled):
                settled = [*settled, group]
        rest = unsettled(game, settled)
    return division


def levels(game, division):
    """The different complaints of the groups other than the whole, the greatest one first."""
    found = []
    for one in complaint_list(game, division):
        if one not in found[-1:]:
            found.append(one)
    return found


def groups_from(game, division, level):
    """The ascending list of the groups other than the whole whose complaint is at least a ratio."""
    told = complaints(game, division)
    return [group for group in other_groups(game) if compare(told[group], level) >= 0]


def weights_or_steps(game, chosen):
    """A family whose keys are just some groups and None, or None and steps by which some of them gain, none loses."""
    lines = member_rows(game, chosen)
    # Each group has a weight of 1 ahead of the program, so that none has a weight of 0; the count is one column
    # minus another one, so that the steps have the sum 0.
    rows = [line + [-1, 1] for line in lines]
    answer = least(rows, [-sum(line) for line in lines], [0] * (len(chosen) + 2))
    if answer[0] == "none":
        return (None, [-multiplier for multiplier in answer[1]])
    kind, unit, amounts, prices = answer
    weights = lowest([unit + number for number in amounts[:-2]])
    return ({group: weight for group, weight in zip(chosen, weights)}, None)


def evidence(game, division):
    """A family for each level that shows that a division is least, or None."""
    found = []
    for level in levels(game, division):
        family, steps = weights_or_steps(game, groups_from(game, division, level))
        if family is None:
            return None
        found.append(family)
    return found


def move(game, division):
    """A level and steps of the players that lessen the complaints of a division, or None."""
    for level in levels(game, division):
        family, steps = weights_or_steps(game, groups_from(game, division, level))
        if steps is not None:
            return (level, steps)
    return None


def are_all(game, family, chosen):
    """Whether a value is a family whose keys are just some groups in ascending order."""
    return is_family(game, family) and sorted(list(family)) == chosen


def shows_least(game, division, told):
    """Whether a value is evidence that a division is least."""
    ratios = levels(game, division)
    if not isinstance(told, (list, tuple)) or len(told) != len(ratios):
        return False
    return all([are_all(game, family, groups_from(game, division, level)) for level, family in zip(ratios, told)])


def are_steps(game, value):
    """Whether a value is a list of an integer for each player, with the sum 0."""
    return integer_list(value) and len(value) == game.players and sum(value) == 0


def shows_move(game, division, told):
    """Whether a value is a level and steps that lessen the complaints of a division."""
    ratios = levels(game, division)
    if not isinstance(told, tuple) or len(told) != 2:
        return False
    level, steps = told
    if not is_ratio(level) or level not in ratios or not are_steps(game, steps):
        return False
    gains = [sum([steps[member] for member in group]) for group in groups_from(game, division, level)]
    return min(gains) >= 0 and max(gains) > 0


def improved(game, division):
    """A division whose list of complaints is less, or None if the division is least."""
    if not is_division(game, division):
        raise NotDivision()
    best = least_division(game)
    return None if best == list(division) else best
