"""Points 41, 42 and 43: exact programs."""

import copy
import itertools
import math
import random
import unittest
from fractions import Fraction

from leastcomplaint.errors import BadProgram
from leastcomplaint.programs import is_least, least
from reckoning import seconds, solved

BAD_PROGRAMS = [
    ([], [], []), ([], [], [1]), ([[]], [1], []), ([[], []], [1, 1], []), ([[1], []], [1, 1], [1]),
    ([[1, 2], [1]], [1, 1], [1, 1]), ([[1], [1, 2]], [1, 1], [1]), ([[1, 2]], [], [1, 1]), ([[1, 2]], [1, 1], [1, 1]),
    ([[1, 2]], [1], [1]), ([[1, 2]], [1], [1, 1, 1]), ([[1, 2]], [1], []), ([[True, 2]], [1], [1, 1]),
    ([[1, 2.0]], [1], [1, 1]), ([["1", 2]], [1], [1, 1]), ([[None, 2]], [1], [1, 1]), ([[(1, 1), 2]], [1], [1, 1]),
    ([[1, 2]], [True], [1, 1]), ([[1, 2]], [1.0], [1, 1]), ([[1, 2]], [None], [1, 1]), ([[1, 2]], [(1, 1)], [1, 1]),
    ([[1, 2]], [1], [False, 1]), ([[1, 2]], [1], [1, "1"]), ([[1, 2]], [1], [1, None]), (None, [1], [1]), (3, [1], [1]),
    ([1, 2], [1], [1, 1]), ([None], [1], [1]), ([[1], None], [1, 1], [1]), ([[1], [True]], [1, 1], [1]), ("12", [1], [1]), (["1"], [1], [1]), ({0: [1]}, [1], [1]),
    ([{0: 1}], [1], [1]), ([[1]], None, [1]), ([[1]], 1, [1]), ([[1]], "1", [1]), ([[1]], {0: 1}, [1]),
    ([[1]], [1], None), ([[1]], [1], 1), ([[1]], [1], "1"), ([[1]], [1], {0: 1}),
]


def dot(one, other):
    return sum(x * y for x, y in zip(one, other, strict=True))


def by_columns(rows, prices):
    return [sum(price * row[k] for price, row in zip(prices, rows)) for k in range(len(rows[0]))]


def right(rows, totals, costs, answer):
    """What point 42 says of an answer, apart from common divisors."""
    many, kind = len(costs), answer[0]
    if kind == "none":
        if len(answer[1]) != len(rows):
            return False
        return max(by_columns(rows, answer[1])) <= 0 < dot(answer[1], totals)
    unit, amounts, rest = answer[1:]
    if unit < 1 or len(amounts) != many or min(amounts) < 0:
        return False
    if any(dot(row, amounts) != end * unit for row, end in zip(rows, totals)):
        return False
    if kind == "least":
        if len(rest) != len(rows) or dot(rest, totals) != dot(costs, amounts):
            return False
        return all(price <= unit * cost for price, cost in zip(by_columns(rows, rest), costs))
    if len(rest) != many or min(rest) < 0 or any(dot(row, rest) != 0 for row in rows):
        return False
    return dot(costs, rest) < 0


def least_by_trying(rows, totals, costs):
    """The least cost of amounts that use as few columns as possible; None if there are no amounts."""
    found = []
    if not any(totals):
        found.append(Fraction(0))
    for many in range(1, len(rows) + 1):
        for some in itertools.combinations(range(len(costs)), many):
            amounts = solved([[row[k] for k in some] for row in rows] + [[0] * many] * many, list(totals) + [0] * many)
            if amounts is not None and min(amounts) >= 0:
                found.append(dot(amounts, [costs[k] for k in some]))
    return min(found, default=None)


def some_program(source, rows, columns, most, kept=None):
    """A program with integers from -most to most; with amounts, if `kept` tells how great they may be."""
    table = [[source.randint(-most, most) for _ in range(columns)] for _ in range(rows)]
    totals = [source.choice([0, 1]) * source.randint(-most, most) for _ in range(rows)]
    if kept is not None:
        amounts = [source.choice([0, 0, source.randint(0, kept)]) for _ in range(columns)]
        totals = [dot(row, amounts) for row in table]
    return table, totals, [source.randint(-most, most) for _ in range(columns)]


def steep(many):
    """A program whose costs can be lessened in as many steps as there are sets of its rows."""
    rows = [[2 ** (at - k + 1) if k < at else int(k == at) for k in range(many)] + [int(k == at) for k in range(many)]
            for at in range(many)]
    return rows, [5 ** (at + 1) for at in range(many)], [-(2 ** (many - 1 - k)) for k in range(many)] + [0] * many


def pairing(gains):
    """The program of pairing as many things as there are rows of gains: it has one row too many."""
    many = len(gains)
    rows = [[int(k // many == at) for k in range(many * many)] for at in range(many)]
    rows += [[int(k % many == at) for k in range(many * many)] for at in range(many)]
    return rows, [1] * (2 * many), [-gain for row in gains for gain in row]


# Programs on which simpler ways of stepping go round in circles, and their least costs.
CIRCLES = [
    (([[4, 0, 0, 1, -32, -4, 36], [0, 2, 0, 1, -24, -1, 6], [0, 0, 1, 0, 0, 1, 0]], [0, 0, 1],
      [0, 0, 0, -3, 80, -2, 24]), -5),
    (([[1, -11, -5, 18, 2, 0, 0], [1, -3, -1, 2, 0, 2, 0], [1, 0, 0, 0, 0, 0, 1]], [0, 0, 1],
      [-10, 57, 9, 24, 0, 0, 0]), -1),
]


class ProgramCase(unittest.TestCase):
    def assert_right(self, program, answer):
        rows, totals, costs = program
        self.assertIs(type(answer), tuple)
        self.assertIn(answer[0], ("least", "none", "endless"))
        self.assertEqual(len(answer), 2 if answer[0] == "none" else 4)
        lists = [part for part in answer[1:] if not isinstance(part, int)]
        self.assertEqual([type(part) for part in lists], [list] * (1 if answer[0] == "none" else 2))
        self.assertTrue(all(type(number) is int for part in lists for number in part))
        self.assertTrue(right(rows, totals, costs, answer), (program, answer))
        if answer[0] == "least":
            self.assertEqual(math.gcd(answer[1], *answer[2], *answer[3]), 1)
        elif answer[0] == "endless":
            self.assertEqual([math.gcd(answer[1], *answer[2]), math.gcd(*answer[3])], [1, 1])
        else:
            self.assertEqual(math.gcd(*answer[1]), 1)
        self.assertIs(is_least(rows, totals, costs, answer), True)

    def cost(self, program):
        answer = least(*program)
        self.assert_right(program, answer)
        self.assertEqual(answer[0], "least")
        return Fraction(dot(program[2], answer[2]), answer[1])


class Interface(unittest.TestCase):
    def test_first_line(self):
        self.assertEqual(least([[1, 1, 1], [0, 1, 2]], [2, 3], [5, 1, 4]), ("least", 1, [0, 1, 1], [-2, 3]))

    def test_second_line(self):
        self.assertEqual(
            [least([[1, 2]], [-1], [0, 0]), least([[1, -1]], [0], [-1, 0])[0], least([[1, -1]], [0], [-1, 0])[3]],
            [("none", [-1]), "endless", [1, 1]],
        )

    def test_third_line(self):
        self.assertEqual(
            [is_least([[1, 2]], [4], [1, 1], ("least", 1, [0, 2], [0])),
             is_least([[1, 2]], [3], [1, 1], ("least", 2, [0, 3], [1]))],
            [False, True],
        )


class Least(ProgramCase):
    def test_small_programs(self):
        source = random.Random(42)
        kinds = {"least": 0, "none": 0, "endless": 0}
        for k in range(3000):
            program = some_program(source, source.randint(1, 3), source.randint(1, 5), source.choice([1, 2, 9]),
                                   source.choice([None, 1, 3]))
            answer = least(*program)
            self.assert_right(program, answer)
            kinds[answer[0]] += 1
            expected = least_by_trying(*program)
            if answer[0] == "least":
                self.assertEqual(Fraction(dot(program[2], answer[2]), answer[1]), expected)
            else:
                self.assertEqual(answer[0] == "none", expected is None)
        self.assertGreater(min(kinds.values()), 100)

    def test_by_hand(self):
        self.assertEqual(self.cost(([[2]], [3], [5])), Fraction(15, 2))
        self.assertEqual(self.cost(([[-2]], [-3], [-5])), Fraction(-15, 2))
        self.assertEqual(self.cost(([[1, 2, 3]], [7], [3, 4, 5])), Fraction(35, 3))
        self.assertEqual(self.cost(([[1, 1, 0], [0, 1, 1]], [2, 2], [1, 3, 1])), 4)
        self.assertEqual(self.cost(([[1, 1, 0], [0, 1, 1]], [2, 2], [2, 3, 2])), 6)

    def test_no_common_divisor(self):
        self.assertEqual(least([[6]], [4], [0]), ("least", 3, [2], [0]))
        self.assertEqual(least([[6]], [4], [3]), ("least", 6, [4], [3]))
        self.assertEqual(least([[4]], [8], [6]), ("least", 2, [4], [3]))
        self.assertEqual(least([[-6, 0]], [4], [1, 1]), ("none", [1]))
        answer = least([[6, -6]], [9], [2, -6])
        self.assertEqual(answer, ("endless", 2, [3, 0], [1, 1]))

    def test_zeros(self):
        self.assertEqual(least([[0]], [0], [0]), ("least", 1, [0], [0]))
        self.assertEqual(least([[0]], [0], [1])[:3], ("least", 1, [0]))
        self.assertEqual(least([[0]], [5], [1]), ("none", [1]))
        self.assertEqual(least([[0]], [-5], [1]), ("none", [-1]))
        self.assertEqual(least([[0]], [0], [-1]), ("endless", 1, [0], [1]))
        self.assertEqual(least([[1]], [0], [-1])[:3], ("least", 1, [0]))

    def test_no_amounts_though_costs_would_fall(self):
        program = ([[1, -1, 0], [0, 0, 0]], [0, 1], [-1, 0, -1])
        self.assertEqual(least(*program)[0], "none")
        self.assert_right(program, least(*program))

    def test_amounts_only_where_a_row_lacks_nothing(self):
        # The last column seems to cost nothing but less, and it cannot be used at all.
        program = ([[1, 1, 0], [1, 1, 1]], [1, 1], [2, 1, -1000])
        self.assertEqual(self.cost(program), 1)
        program = ([[1, 1, 0], [1, 1, 1], [0, 0, 3]], [1, 1, 0], [2, 1, -1000])
        self.assertEqual(self.cost(program), 1)

    def test_rows_that_depend_on_one_another(self):
        self.assertEqual(self.cost(([[1, 2], [2, 4], [-3, -6]], [4, 8, -12], [1, 1])), 2)
        self.assertEqual(least([[1, 2], [2, 4]], [4, 9], [1, 1])[0], "none")
        self.assertEqual(least([[1, -1], [-2, 2]], [0, 0], [-3, 2])[0], "endless")

    def test_circles(self):
        for program, cost in CIRCLES:
            self.assertEqual(self.cost(program), cost)

    def test_ratios_alike_again_and_again(self):
        source = random.Random(7)
        for k in range(60):
            rows, columns = source.randint(3, 8), source.randint(8, 30)
            table, totals, costs = some_program(source, rows, columns, source.choice([1, 1, 2, 3]))
            if k % 3 == 0:
                totals = [0] * rows
            elif k % 3 == 1:
                totals = [sum(row) for row in table]
                table[-1], totals[-1] = [x + y for x, y in zip(table[0], table[1])], totals[0] + totals[1]
            costs = [abs(cost) for cost in costs] if k % 2 else costs
            self.assert_right((table, totals, costs), least(table, totals, costs))

    def test_pairings(self):
        source = random.Random(3)
        for k in range(20):
            gains = [[source.randint(0, source.choice([1, 3, 1000])) for _ in range(4)] for _ in range(4)]
            best = max(sum(row[x] for row, x in zip(gains, order)) for order in itertools.permutations(range(4)))
            self.assertEqual(self.cost(pairing(gains)), -best)

    def test_steep_programs(self):
        for many in range(1, 9):
            self.assertEqual(self.cost(steep(many)), -(5 ** many))

    def test_great_programs_in_time(self):
        source = random.Random(11)
        for columns in (30, 30, 30, 30, 100):
            for most, kept in ((999999, 5), (999999, None), (9, 3), (1, 1), (2, 0)):
                program = some_program(source, 8, columns, most, kept)
                self.assertLess(seconds(least, *program), 3)
                self.assert_right(program, least(*program))
                # With costs that are sums of prices of the rows, and some more, there is a least cost.
                prices = [source.randint(-3, 3) for _ in range(8)]
                costs = [cost + source.choice([0, 0, source.randint(0, most)])
                         for cost in by_columns(program[0], prices)]
                program = (program[0], program[1], costs)
                self.assertLess(seconds(least, *program), 3)
                self.assert_right(program, least(*program))
        self.assertLess(seconds(least, *steep(8)), 3)


class Telling(ProgramCase):
    def answers(self):
        """Programs with right answers of all kinds."""
        source = random.Random(9)
        told = [(([[1, 1, 1], [0, 1, 2]], [2, 3], [5, 1, 4]), ("least", 1, [0, 1, 1], [-2, 3]))]
        for k in range(120):
            program = some_program(source, source.randint(1, 3), source.randint(1, 4), 4, source.choice([None, 2]))
            told.append((program, least(*program)))
        self.assertEqual({answer[0] for program, answer in told}, {"least", "none", "endless"})
        return told

    def test_single_numbers_changed(self):
        for program, answer in self.answers():
            self.assertIs(is_least(*program, answer), True)
            for at, part in enumerate(answer[1:], 1):
                for step in (-3, -1, 1, 2, 10):
                    if isinstance(part, int):
                        changed = [part + step]
                    else:
                        changed = [part[:k] + [part[k] + step] + part[k + 1:] for k in range(len(part))]
                    for one in changed:
                        other = (*answer[:at], one, *answer[at + 1:])
                        self.assertIs(is_least(*program, other), right(*program, other), (program, other))

    def test_common_divisors(self):
        for program, answer in self.answers():
            for factor in (2, 7):
                parts = [part * factor if isinstance(part, int) else [number * factor for number in part]
                         for part in answer[1:]]
                self.assertIs(is_least(*program, (answer[0], *parts)), True)
                parts = [-part if isinstance(part, int) else [-number for number in part] for part in answer[1:]]
                other = (answer[0], *parts)
                self.assertIs(is_least(*program, other), right(*program, other))

    def test_lengths(self):
        for program, answer in self.answers():
            for at, part in enumerate(answer[1:], 1):
                if not isinstance(part, int):
                    for one in (part[:-1], part[1:], part + [0], [0] + part, [], part + part):
                        other = (*answer[:at], one, *answer[at + 1:])
                        self.assertIs(is_least(*program, other), one == part, (program, other))

    def test_all_small_answers(self):
        program = ([[1, 2]], [3], [1, 1])
        for unit in range(-1, 4):
            for some in itertools.product(range(-1, 4), repeat=3):
                for kind in ("least", "endless"):
                    for answer in ((kind, unit, list(some[:2]), [some[2]]), (kind, unit, list(some[:2]), [some[2], 1])):
                        self.assertIs(is_least(*program, answer), right(*program, answer), answer)
        for number in range(-3, 4):
            self.assertIs(is_least([[1, 2]], [-1], [0, 0], ("none", [number])), number < 0)
            self.assertIs(is_least([[1, 2]], [1], [0, 0], ("none", [number])), False)

    def test_unit_of_zero(self):
        self.assertIs(is_least([[1, 2]], [3], [1, 1], ("least", 0, [0, 0], [0])), False)
        self.assertIs(is_least([[1, -1]], [0], [-1, 0], ("endless", 0, [0, 0], [1, 1])), False)
        self.assertIs(is_least([[1, -1]], [0], [-1, 0], ("endless", 1, [0, 0], [0, 0])), False)
        self.assertIs(is_least([[1, -1]], [0], [-1, 0], ("endless", 3, [5, 5], [2, 2])), True)
        self.assertIs(is_least([[1, -1]], [0], [-1, 0], ("endless", 3, [5, 4], [2, 2])), False)
        self.assertIs(is_least([[1, -1]], [0], [1, 0], ("endless", 1, [0, 0], [1, 1])), False)

    def test_other_values(self):
        for answer in ((), ("least",), ("none",), ("least", 1, [0, 1]), ("most", 1, [0, 1], [0]), ("none", [1], [1]),
                       ("least", 1, [1, 1], [0], [0]), None, "none", 3, ["none", [-1]], (None, 1, [1, 1], [0])):
            self.assertIs(is_least([[1, 2]], [3], [0, 0], answer), False, answer)
        for kind in ("none", "endless", "Least", "", None, 1):
            self.assertIs(is_least([[1, 2]], [3], [1, 1], (kind, 2, [0, 3], [1])), False)
        for kind in ("least", "none", "Endless", "", None, 1):
            self.assertIs(is_least([[1, -1]], [0], [-1, 0], (kind, 1, [0, 0], [1, 1])), False)
        for kind in ("least", "endless", "None", "", None, 1):
            self.assertIs(is_least([[1, 2]], [-1], [0, 0], (kind, [-1])), False)

    def test_numbers_that_are_no_integers(self):
        for answer in (("least", True, [3, 0], [0]), ("least", 1, [3, False], [0]), ("least", 1, [3, 0], [False]),
                       ("least", 1.0, [3, 0], [0]), ("least", 1, [3.0, 0], [0]), ("least", 1, [3, 0], [0.0]),
                       ("least", 1, None, [0]), ("least", 1, [3, 0], None), ("least", None, [3, 0], [0])):
            self.assertIs(is_least([[1, 2]], [3], [0, 0], answer), False, answer)
        self.assertIs(is_least([[1, 2]], [3], [0, 0], ("least", 1, [3, 0], [0])), True)
        for answer in (("endless", True, [0, 0], [1, 1]), ("endless", 1, [0, False], [1, 1]),
                       ("endless", 1, [0, 0], [True, True]), ("endless", 1, [0, 0], None), ("none", [True])):
            self.assertIs(is_least([[1, -1]], [0], [-1, 0], answer), False, answer)
        self.assertIs(is_least([[-1]], [1], [0], ("none", [True])), False)
        self.assertIs(is_least([[-1]], [1], [0], ("none", [1])), True)

    def test_tuples_and_names(self):
        program = ([[1, 1, 1], [0, 1, 2]], [2, 3], [5, 1, 4])
        told = ("least", 1, [0, 1, 1], [-2, 3])
        self.assertEqual(least(((1, 1, 1), (0, 1, 2)), (2, 3), (5, 1, 4)), told)
        self.assertEqual(least(costs=[5, 1, 4], totals=[2, 3], rows=program[0]), told)
        self.assertIs(is_least(((1, 1, 1), (0, 1, 2)), (2, 3), (5, 1, 4), ("least", 1, (0, 1, 1), (-2, 3))), True)
        self.assertIs(is_least(answer=told, costs=[5, 1, 4], totals=[2, 3], rows=program[0]), True)


class Wrong(ProgramCase):
    def test_bad_programs(self):
        for rows, totals, costs in BAD_PROGRAMS:
            with self.subTest(rows=rows, totals=totals, costs=costs):
                with self.assertRaises(BadProgram):
                    least(rows, totals, costs)
                for answer in (("none", [1]), ("least", 1, [1], [1]), None):
                    with self.assertRaises(BadProgram):
                        is_least(rows, totals, costs, answer)

    def test_arguments_stay_and_results_are_new(self):
        source = random.Random(2)
        for k in range(60):
            program = some_program(source, 2, 4, 3, source.choice([None, 2]))
            before = copy.deepcopy(program)
            first, second = least(*program), least(*program)
            kept = copy.deepcopy(second)
            self.assertEqual(first, second)
            is_least(*program, first)
            self.assertEqual(first, second)
            for part in first[1:]:
                if not isinstance(part, int):
                    part.clear()
            self.assertEqual(second, kept)
            self.assertEqual(least(*program), kept)
            self.assertEqual(program, before)


if __name__ == "__main__":
    unittest.main()
