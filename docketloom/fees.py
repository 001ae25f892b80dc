"""Tariffs, fee books, and the fees by them."""

from docketloom.coins import are_dated, holding, is_money, is_rate
from docketloom.errors import NotThere, Refused
from docketloom.names import is_ascending, is_name, is_one_of, is_tuple
from docketloom.parts import rounded

ROUNDINGS = ("down", "up", "near")
BOOK_WAYS = ("old", "new", "kind")
MOST_STEPS = 12
MOST_TABLES = 12
MOST_TARIFFS = 12


def is_tariff(value):
    """True if the value, of any kind, is a tariff."""
    if not is_tuple(value, 2, 2) or not is_one_of(value[0], ROUNDINGS) or not is_tuple(value[1], 1, MOST_STEPS):
        return False
    steps = value[1]
    if not all(is_step(step) for step in steps):
        return False
    return steps[0][0] == 0 and is_ascending([since for since, _, _ in steps])


def is_step(value):
    """True if the value, of any kind, is a step of a tariff."""
    return is_tuple(value, 3, 3) and is_money(value[0]) and is_money(value[1]) and is_rate(value[2])


def is_fee_book(value):
    """True if the value, of any kind, is a fee book."""
    if not is_tuple(value, 2, 2) or not is_one_of(value[0], BOOK_WAYS) or not are_dated(value[1], MOST_TABLES):
        return False
    return all(is_table(table) for _, table in value[1])


def is_table(value):
    """True if the value, of any kind, is a table of a fee book."""
    if not is_tuple(value, 0, MOST_TARIFFS):
        return False
    if not all(is_tuple(item, 2, 2) and is_name(item[0]) and is_tariff(item[1]) for item in value):
        return False
    return is_ascending([name for name, _ in value])


def fee_by(way, step, value):
    """The fee of a value by one step of a tariff."""
    since, base, (part, whole) = step
    return base + rounded((part * (value - since), whole), way)


def fee_of(tariff, value):
    """The fee of a value."""
    way, steps = tariff
    return fee_by(way, [step for step in steps if step[0] <= value][-1], value)


def first_unfair(tariff):
    """The first unfair pair, or None."""
    way, steps = tariff
    for at in range(len(steps) - 1):
        # Inside of a step no fee is lower than one ahead of it, so the lowest fee of each later step is its base.
        lowest_behind = min([base for _, base, _ in steps[at + 1:]])
        low = first_dearer(way, steps[at], steps[at + 1][0] - 1, lowest_behind)
        if low is not None:
            fee = fee_by(way, steps[at], low)
            return (low, min([since for since, base, _ in steps[at + 1:] if base < fee]))
    return None


def first_dearer(way, step, last, bound):
    """The least value of a step, up to its last one, whose fee is greater than the bound; or None."""
    if fee_by(way, step, last) <= bound:
        return None
    low = step[0]
    high = last
    while low < high:
        middle = (low + high) // 2
        if fee_by(way, step, middle) > bound:
            high = middle
        else:
            low = middle + 1
    return low


def fee_due(book, name, value, begun, filed):
    """The fee of a filing in a cause that was begun on one day, made on another one."""
    way, rows = book
    days = (begun, filed) if way == "kind" else (begun if way == "old" else filed,)
    tariffs = [tariff for day in days for other, tariff in holding(rows, day) if other == name]
    if len(tariffs) == 0:
        raise NotThere("no fee for this name")
    if filed < begun:
        raise Refused("the filing is ahead of the beginning of the cause")
    return min([fee_of(tariff, value) for tariff in tariffs])
