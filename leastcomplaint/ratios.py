"""Ratios: exact numbers as tuples (top, bottom) in lowest terms."""

from leastcomplaint.errors import BadRatio, BadText

LONGEST_TEXT = 60


def common_divisor(one, other):
    """The greatest common divisor of two integers; 0 if both are 0."""
    while other != 0:
        one, other = other, one % other
    return abs(one)


def ratio(top, bottom=1):
    """The ratio top / bottom."""
    if bottom == 0:
        raise BadRatio(bottom)
    divisor = common_divisor(top, bottom)
    if bottom < 0:
        divisor = -divisor
    return (top // divisor, bottom // divisor)


def plus(one, other):
    """The sum of two ratios."""
    return ratio(one[0] * other[1] + other[0] * one[1], one[1] * other[1])


def minus(one, other):
    """The difference of two ratios."""
    return ratio(one[0] * other[1] - other[0] * one[1], one[1] * other[1])


def times(one, other):
    """The product of two ratios."""
    return ratio(one[0] * other[0], one[1] * other[1])


def compare(one, other):
    """1 if the first ratio is greater, -1 if it is less, otherwise 0."""
    left = one[0] * other[1]
    right = other[0] * one[1]
    if left > right:
        return 1
    if left < right:
        return -1
    return 0


def lowest(numbers):
    """The list of some integers, each divided by their greatest common divisor."""
    divisor = 0
    for number in numbers:
        divisor = common_divisor(divisor, number)
    if divisor == 0:
        return list(numbers)
    return [number // divisor for number in numbers]


def scaled(ratios, unit):
    """The list of the integers that ratios become when they are multiplied by a multiple of all their bottoms."""
    return [top * (unit // bottom) for top, bottom in ratios]


def together(ratios):
    """The least unit that makes all ratios integers, and the list of these integers."""
    unit = 1
    for top, bottom in ratios:
        unit = unit // common_divisor(unit, bottom) * bottom
    return (unit, scaled(ratios, unit))


def added(ratios):
    """The sum of a list of ratios."""
    unit, tops = together(ratios)
    return ratio(sum(tops), unit)


def least_ratio(ratios):
    """The least one of some ratios."""
    unit, tops = together(ratios)
    return ratio(min(tops), unit)


def integer_text(number):
    """The decimal notation of an integer of any size."""
    # Python refuses to write very long integers at once: so this goes block by block.
    block = 10 ** 64
    rest = abs(number)
    tail = ""
    while rest >= block:
        rest, last = divmod(rest, block)
        tail = str(last).zfill(64) + tail
    sign = "-" if number < 0 else ""
    return sign + str(rest) + tail


def ratio_text(one):
    """The text of a ratio: its top, and its bottom too, unless this is 1."""
    if one[1] == 1:
        return integer_text(one[0])
    return integer_text(one[0]) + "/" + integer_text(one[1])


def is_digits(text):
    """Whether a text consists of one or more digits from 0 to 9."""
    return text.isascii() and text.isdigit()


def read_ratio(text):
    """The ratio with a text."""
    if len(text) > LONGEST_TEXT:
        raise BadText()
    top, stroke, bottom = text.partition("/")
    if stroke == "":
        bottom = "1"
    if not is_digits(top.removeprefix("-")) or not is_digits(bottom):
        raise BadText()
    if int(bottom) == 0:
        raise BadText()
    found = ratio(int(top), int(bottom))
    # A ratio has just one text: this refuses all other ways to write it.
    if ratio_text(found) != text:
        raise BadText()
    return found
