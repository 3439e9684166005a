"""Linear equations: which of them depend on one another, and what solves them."""

from leastcomplaint.ratios import added, minus, ratio, times


def first_place(line):
    """The place of the first number of a list that is not 0, or None."""
    for place, number in enumerate(line):
        if number != 0:
            return place
    return None


def reduced(line, kept, place):
    """A multiple of a list of integers, without what it has at a place, by the help of another list."""
    return [number * kept[place] - line[place] * own for number, own in zip(line, kept)]


def rank(lines):
    """How many of some lists of integers are not sums of multiples of those before them."""
    rest = list(lines)
    found = 0
    while rest:
        line, *behind = rest
        place = first_place(line)
        if place is not None:
            found += 1
            behind = [reduced(other, line, place) for other in behind]
        rest = behind
    return found


def are_independent(lines):
    """Whether no list of integers is a sum of multiples of the other ones."""
    return rank(lines) == len(lines)


def solution(lines):
    """The only list of ratios that solves some equations, or None if there is none, or more than one.

    There are as many equations as unknowns. An equation is a list of a factor for each unknown, and the total.
    """
    if len(lines) == 0:
        return []
    leading = [at for at, line in enumerate(lines) if line[0] != 0]
    if len(leading) == 0:
        return None
    kept = lines[leading[0]]
    behind = solution([reduced(line, kept, 0)[1:] for at, line in enumerate(lines) if at != leading[0]])
    if behind is None:
        return None
    others = added([times((factor, 1), one) for factor, one in zip(kept[1:], behind)])
    return [times(minus((kept[-1], 1), others), ratio(1, kept[0]))] + behind
