"""Points 2, 12 and 13: ratios and their texts."""

import copy
import itertools
import math
import unittest
from fractions import Fraction

from leastcomplaint.errors import BadRatio, BadText
from leastcomplaint.ratios import (
    compare, lowest, minus, plus, ratio, ratio_text, read_ratio, times, together,
)

LONG = 10 ** 29 + 7
NUMBERS = [0, 1, -1, 2, 3, -4, 6, 9, -10, 12, 35, LONG, -LONG]
BOTTOMS = [number for number in NUMBERS if number != 0]


def fraction(one):
    return Fraction(one[0], one[1])


class RatioCase(unittest.TestCase):
    def assert_ratio(self, told, expected):
        """Point 2: a tuple of two integers in lowest terms with a bottom of at least 1."""
        self.assertIs(type(told), tuple)
        self.assertEqual([type(number) for number in told], [int, int])
        self.assertGreaterEqual(told[1], 1)
        self.assertEqual(math.gcd(told[0], told[1]), 1)
        self.assertEqual(fraction(told), expected)


class Making(RatioCase):
    def test_interface(self):
        self.assertEqual(
            [ratio(6, -4), plus((1, 2), (1, 3)), times((2, 3), (3, 4)), compare((1, 2), (2, 3)), lowest([4, 0, -6])],
            [(-3, 2), (5, 6), (1, 2), -1, [2, 0, -3]],
        )

    def test_lowest_terms_and_signs(self):
        for top, bottom in itertools.product(NUMBERS, BOTTOMS):
            self.assert_ratio(ratio(top, bottom), Fraction(top, bottom))

    def test_zero(self):
        for bottom in BOTTOMS:
            self.assertEqual(ratio(0, bottom), (0, 1))

    def test_negative_tops_and_bottoms(self):
        self.assertEqual([ratio(-6, -4), ratio(-6, 4), ratio(6, -4)], [(3, 2), (-3, 2), (-3, 2)])
        self.assertEqual([ratio(-5, -5), ratio(5, -5), ratio(7, -1)], [(1, 1), (-1, 1), (-7, 1)])

    def test_default_and_names(self):
        self.assertEqual([ratio(5), ratio(-5), ratio(0)], [(5, 1), (-5, 1), (0, 1)])
        self.assertEqual([ratio(top=4, bottom=6), ratio(bottom=6, top=4), ratio(4, bottom=6)], [(2, 3)] * 3)

    def test_bottom_zero(self):
        for top in (0, 1, -3, LONG):
            with self.assertRaises(BadRatio) as caught:
                ratio(top, 0)
            self.assertEqual(caught.exception.bottom, 0)


class Reckoning(RatioCase):
    def ratios(self):
        return [ratio(top, bottom) for top, bottom in itertools.product(NUMBERS, BOTTOMS)][::3]

    def test_sum_difference_product(self):
        for one, other in itertools.product(self.ratios(), repeat=2):
            self.assert_ratio(plus(one, other), fraction(one) + fraction(other))
            self.assert_ratio(minus(one, other), fraction(one) - fraction(other))
            self.assert_ratio(times(one, other), fraction(one) * fraction(other))

    def test_results_cancel(self):
        self.assertEqual(plus((1, 6), (1, 3)), (1, 2))
        self.assertEqual(plus((1, 2), (-1, 2)), (0, 1))
        self.assertEqual(minus((1, 2), (1, 3)), (1, 6))
        self.assertEqual(minus((5, 7), (5, 7)), (0, 1))
        self.assertEqual(times((-2, 3), (0, 1)), (0, 1))
        self.assertEqual(times((-2, 3), (-3, 2)), (1, 1))

    def test_compare(self):
        for one, other in itertools.product(self.ratios(), repeat=2):
            left, right = fraction(one), fraction(other)
            told = compare(one, other)
            self.assertIs(type(told), int)
            self.assertEqual(told, (left > right) - (left < right))
        self.assertEqual([compare((2, 3), (1, 2)), compare((1, 2), (1, 2)), compare((-1, 2), (-1, 3))], [1, 0, -1])

    def test_names(self):
        self.assertEqual(plus(one=(1, 2), other=(1, 3)), (5, 6))
        self.assertEqual(minus(other=(1, 3), one=(1, 2)), (1, 6))
        self.assertEqual(times(one=(1, 2), other=(1, 3)), (1, 6))
        self.assertEqual(compare(other=(1, 3), one=(1, 2)), 1)


class Lists(RatioCase):
    def test_lowest(self):
        self.assertEqual(lowest([]), [])
        self.assertEqual(lowest([0]), [0])
        self.assertEqual(lowest([0, 0]), [0, 0])
        self.assertEqual(lowest([-6]), [-1])
        self.assertEqual(lowest([0, -6, 0]), [0, -1, 0])
        self.assertEqual(lowest([-4, -6]), [-2, -3])
        self.assertEqual(lowest([6, 10, 15]), [6, 10, 15])
        self.assertEqual(lowest([12, 18, 30]), [2, 3, 5])
        self.assertEqual(lowest([3 * LONG, -5 * LONG]), [3, -5])
        self.assertEqual(lowest(numbers=[4, 2]), [2, 1])

    def test_lowest_of_many(self):
        for numbers in itertools.product(range(-4, 7), repeat=3):
            divisor = math.gcd(*numbers) or 1
            self.assertEqual(lowest(list(numbers)), [number // divisor for number in numbers])

    def test_together_interface(self):
        self.assertEqual(together([(1, 2), (-2, 3), (4, 1)]), (6, [3, -4, 24]))

    def test_together_edges(self):
        self.assertEqual(together([]), (1, []))
        self.assertEqual(together([(0, 1)]), (1, [0]))
        self.assertEqual(together([(5, 1), (-3, 1)]), (1, [5, -3]))
        self.assertEqual(together([(1, 4), (1, 6)]), (12, [3, 2]))
        self.assertEqual(together([(1, 6), (1, 6), (5, 3)]), (6, [1, 1, 10]))
        self.assertEqual(together(ratios=[(1, 2)]), (2, [1]))

    def test_together_takes_the_least_unit(self):
        ratios = [ratio(top, bottom) for top in (-3, 0, 4) for bottom in (1, 2, 4, 6, 9, 10)]
        for some in itertools.combinations(ratios, 3):
            unit, tops = together(list(some))
            self.assertEqual(unit, math.lcm(*[bottom for top, bottom in some]))
            self.assertEqual([Fraction(top, unit) for top in tops], [fraction(one) for one in some])

    def test_kinds(self):
        told = together([(1, 2)])
        self.assertIs(type(told), tuple)
        self.assertIs(type(told[1]), list)
        self.assertIs(type(lowest((4, 2))), list)

    def test_tuples_make_no_difference(self):
        self.assertEqual(lowest((4, 0, -6)), [2, 0, -3])
        self.assertEqual(lowest((0, 0)), [0, 0])
        self.assertEqual(lowest(()), [])
        self.assertEqual(together(((1, 2), (1, 3))), (6, [3, 2]))
        self.assertEqual(together(()), (1, []))

    def test_arguments_stay_and_results_are_new(self):
        for numbers in ([], [0, 0], [4, 0, -6], [1, 2]):
            before = list(numbers)
            first, second = lowest(numbers), lowest(numbers)
            self.assertIsNot(first, numbers)
            self.assertIsNot(first, second)
            first.append(99)
            self.assertEqual(numbers, before)
            self.assertEqual(lowest(numbers), second)
        ratios = [(1, 2), (3, 1)]
        before = copy.deepcopy(ratios)
        first, second = together(ratios), together(ratios)
        self.assertIsNot(first[1], second[1])
        first[1].append(99)
        self.assertEqual(ratios, before)
        self.assertEqual(together(ratios), second)


class Texts(RatioCase):
    def refused(self, text):
        with self.subTest(text), self.assertRaises(BadText):
            read_ratio(text)

    def test_interface(self):
        self.assertEqual([ratio_text((5, 6)), ratio_text((-2, 1)), read_ratio("-3/4")], ["5/6", "-2", (-3, 4)])

    def test_written_and_read(self):
        for top, bottom in itertools.product(NUMBERS, BOTTOMS):
            one = ratio(top, bottom)
            expected = f"{one[0]}" if one[1] == 1 else f"{one[0]}/{one[1]}"
            self.assertEqual(ratio_text(one), expected)
            if len(expected) <= 60:
                self.assert_ratio(read_ratio(expected), fraction(one))
        self.assertEqual([ratio_text((0, 1)), read_ratio("0"), read_ratio("-10"), read_ratio("10/3")],
                         ["0", (0, 1), (-10, 1), (10, 3)])

    def test_names(self):
        self.assertEqual(ratio_text(one=(1, 2)), "1/2")
        self.assertEqual(read_ratio(text="1/2"), (1, 2))

    def test_very_long_numbers_are_written(self):
        self.assertEqual(ratio_text((10 ** 64, 1)), "1" + "0" * 64)
        self.assertEqual(ratio_text((10 ** 64 - 1, 10 ** 64)), "9" * 64 + "/1" + "0" * 64)
        self.assertEqual(ratio_text((-(10 ** 5000) - 7, 1)), "-1" + "0" * 4999 + "7")

    def test_not_in_lowest_terms(self):
        for text in ("2/4", "-2/4", "6/3", "0/2", "0/1", "10/5", "-3/3"):
            self.refused(text)

    def test_bottom_of_one_or_none_at_all(self):
        for text in ("1/1", "-5/1", "1/0", "0/0", "1/", "/2", "/", "-/2", "1/-2", "-1/-2", "1/-1", "1/00", "1/02"):
            self.refused(text)

    def test_signs_and_zeros(self):
        for text in ("+1", "+1/2", "1/+2", "-+1", "--1", "- 1", "-0", "-0/1", "00", "01", "-01", "01/2", "007/9", "-",
                     "+"):
            self.refused(text)

    def test_spaces_and_line_feeds(self):
        for text in ("", " ", " 1", "1 ", "1 /2", "1/ 2", "1 2", "1\n", "\n1", "1/2\n", "1\n/2", "\n", "-1 /2"):
            self.refused(text)

    def test_other_characters(self):
        for text in ("a", "1a", "0x1", "1.0", "1.5", "1e3", "1_000", "1,2", "1//2", "1/2/3", "1:2", "1\\2", "(1, 2)",
                     "1/2a", "None", "\u0661", "\u00b2", "1/\u0662"):
            self.refused(text)

    def test_length(self):
        whole = "1" * 60
        broken = "1" * 29 + "/1" + "0" * 29
        self.assertEqual([len(whole), len(broken)], [60, 60])
        self.assertEqual(read_ratio(whole), (int(whole), 1))
        self.assertEqual(read_ratio(broken), (int("1" * 29), 10 ** 29))
        self.assertEqual(read_ratio("-" + "1" * 59), (-int("1" * 59), 1))
        for text in ("1" * 61, "-" + "1" * 60, "1" * 30 + "/1" + "0" * 29, "1" * 12000, "0" * 61, " " * 61):
            self.refused(text)

    def test_all_short_texts(self):
        right = {}
        for top, bottom in itertools.product(range(-99, 1000), range(1, 100)):
            one = ratio(top, bottom)
            right[ratio_text(one)] = one
        for length in range(4):
            for signs in itertools.product("0123-/+ ", repeat=length):
                text = "".join(signs)
                if text in right:
                    self.assertEqual(read_ratio(text), right[text])
                else:
                    with self.assertRaises(BadText):
                        read_ratio(text)


if __name__ == "__main__":
    unittest.main()
