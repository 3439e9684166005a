"""Exact programs: amounts of the least cost, with prices that show that no amounts cost less."""

from leastcomplaint.checks import integer_list, plain_integer
from leastcomplaint.errors import BadProgram
from leastcomplaint.ratios import lowest
from leastcomplaint.tables import Table


def are_rows(value):
    """Whether a value is a list of one or more lists of integers of the same length, at least 1."""
    if not isinstance(value, (list, tuple)) or len(value) == 0:
        return False
    if not all([integer_list(row) for row in value]):
        return False
    return len(value[0]) >= 1 and all([len(row) == len(value[0]) for row in value])


def is_program(rows, totals, costs):
    """Whether there is a total for each row, and a cost for each column."""
    if not are_rows(rows) or not integer_list(totals) or not integer_list(costs):
        return False
    return len(totals) == len(rows) and len(costs) == len(rows[0])


def least_answer(table):
    """What is told when no amounts cost less than those in use."""
    amounts = table.amounts()
    unit, *numbers = lowest([table.unit] + amounts + table.prices())
    return ("least", unit, numbers[:len(amounts)], numbers[len(amounts):])


def endless_answer(table, column):
    """What is told when the costs fall without end as a column is used more and more."""
    unit, *amounts = lowest([table.unit] + table.amounts())
    return ("endless", unit, amounts, lowest(table.way(column)))


def least(rows, totals, costs):
    """Amounts of the least cost, or what shows that there are no amounts, or no least cost."""
    if not is_program(rows, totals, costs):
        raise BadProgram()
    table = Table(rows, totals, costs)
    column = table.lacking_column()
    while column is not None:
        table.bring(column, table.row_for(column))
        column = table.lacking_column()
    if table.is_lacking():
        return ("none", lowest(table.multipliers()))
    column = table.cheaper_column()
    while column is not None:
        at = table.row_for(column)
        if at is None:
            return endless_answer(table, column)
        table.bring(column, at)
        column = table.cheaper_column()
    return least_answer(table)


def dot(one, other):
    """The sum of the products of the numbers of two lists, place by place."""
    return sum([left * right for left, right in zip(one, other)])


def column_sums(rows, multipliers):
    """For each column the sum over the rows of the multiplier times the integer of the row."""
    return [dot(column, multipliers) for column in zip(*rows)]


def are_numbers(value, many):
    """Whether a value is a list of so many integers."""
    return integer_list(value) and len(value) == many


def is_unit(value):
    """Whether a value is an integer of at least 1."""
    return plain_integer(value) and value >= 1


def keeps_rows(rows, totals, unit, amounts):
    """Whether amounts of at least 0 give each row its total times the unit."""
    if not are_numbers(amounts, len(rows[0])) or not all([number >= 0 for number in amounts]):
        return False
    return all([dot(row, amounts) == total * unit for row, total in zip(rows, totals)])


def shows_least_cost(rows, totals, costs, answer):
    """Whether a unit, amounts and prices are right: whether no amounts cost less than these."""
    unit, amounts, prices = answer
    if not is_unit(unit) or not keeps_rows(rows, totals, unit, amounts) or not are_numbers(prices, len(rows)):
        return False
    if not all([price <= unit * cost for price, cost in zip(column_sums(rows, prices), costs)]):
        return False
    return dot(prices, totals) == dot(costs, amounts)


def shows_none(rows, totals, multipliers):
    """Whether multipliers show that there are no amounts."""
    if not are_numbers(multipliers, len(rows)):
        return False
    return all([number <= 0 for number in column_sums(rows, multipliers)]) and dot(multipliers, totals) > 0


def shows_endless(rows, totals, costs, answer):
    """Whether a unit, amounts and a way show that the costs fall without end."""
    unit, amounts, way = answer
    if not is_unit(unit) or not keeps_rows(rows, totals, unit, amounts):
        return False
    return keeps_rows(rows, [0] * len(rows), 1, way) and dot(costs, way) < 0


def is_least(rows, totals, costs, answer):
    """Whether what is told about a program is right."""
    if not is_program(rows, totals, costs):
        raise BadProgram()
    if not isinstance(answer, tuple):
        return False
    if len(answer) == 4 and answer[0] == "least":
        return shows_least_cost(rows, totals, costs, answer[1:])
    if len(answer) == 4 and answer[0] == "endless":
        return shows_endless(rows, totals, costs, answer[1:])
    return len(answer) == 2 and answer[0] == "none" and shows_none(rows, totals, answer[1])
