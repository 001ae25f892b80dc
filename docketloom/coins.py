"""Money and rates, asked of values of any kind, and tables that hold from a first day on."""

from docketloom.days import is_day
from docketloom.names import is_ascending, is_number, is_tuple
from docketloom.parts import is_fraction

MOST_MONEY = 10 ** 12
GREATEST_WHOLE = 10000


def is_money(value):
    """True if the value, of any kind, is money."""
    return is_number(value, 0, MOST_MONEY)


def is_rate(value):
    """True if the value, of any kind, is a rate."""
    return is_fraction(value) and 0 <= value[0] <= value[1] <= GREATEST_WHOLE


def are_dated(value, most):
    """True if the value, of any kind, is pairs of a first day and something, ascending by the days, the first one 0."""
    if not is_tuple(value, 1, most) or not all(is_tuple(item, 2, 2) and is_day(item[0]) for item in value):
        return False
    return value[0][0] == 0 and is_ascending([first for first, _ in value])


def holding(rows, day):
    """What holds on a day, of pairs of a first day and something."""
    return [held for first, held in rows if first <= day][-1]
