"""Rates of interest, bills, and what is owed by them."""

from docketloom.coins import are_dated, is_money, is_rate
from docketloom.days import END, is_day
from docketloom.errors import NotThere, Refused
from docketloom.names import is_tuple
from docketloom.parts import less, made, minus, plus, rounded, times

MOST_RATES = 20
MOST_PAYMENTS = 30
DAYS_OF_A_YEAR = 365
NOUGHT = (0, 1)
WAYS = ("interest", "principal")


def is_rates(value):
    """True if the value, of any kind, is rates."""
    return are_dated(value, MOST_RATES) and all(is_rate(rate) for _, rate in value)


def is_bill(value):
    """True if the value, of any kind, is a bill."""
    if not is_tuple(value, 3, 3) or not is_money(value[0]) or not is_day(value[1]):
        return False
    _, day, payments = value
    if not is_tuple(payments, 0, MOST_PAYMENTS) or not all(is_payment(item) for item in payments):
        return False
    days = [day] + [paid_on for paid_on, _ in payments]
    return days == sorted(days)


def is_payment(value):
    """True if the value, of any kind, is a pair of a day and money."""
    return is_tuple(value, 2, 2) and is_day(value[0]) and is_money(value[1])


def rate_of_days(rates, first, behind):
    """The sum of the rates of the days from first on and ahead of behind."""
    total = NOUGHT
    for at, (since, rate) in enumerate(rates):
        until = rates[at + 1][0] if at + 1 < len(rates) else END
        many = min(until, behind) - max(since, first)
        if many > 0:
            total = plus(total, times(rate, (many, 1)))
    return total


def interest(principal, rates, first, behind):
    """The interest on a principal of the days from first on and ahead of behind."""
    if behind < first:
        raise Refused("the days end before they begin")
    return times(principal, times(rate_of_days(rates, first, behind), made(1, DAYS_OF_A_YEAR)))


def lowered(owing, payment):
    """What is left of something owed behind a payment, and what is left of the payment."""
    if less(owing, payment):
        return NOUGHT, minus(payment, owing)
    return minus(owing, payment), NOUGHT


def owed(bill, rates, way, day):
    """The triple (principal, interest, over) of what is owed on the day."""
    if way not in WAYS:
        raise NotThere("no such way")
    first, at, payments = bill
    if day < at:
        raise Refused("the day is ahead of the bill's")
    principal = (first, 1)
    added = NOUGHT
    over = NOUGHT
    for paid_on, money in payments:
        if paid_on <= day:
            added = plus(added, interest(principal, rates, at, paid_on))
            at = paid_on
            rest = (money, 1)
            if way == "interest":
                added, rest = lowered(added, rest)
            principal, rest = lowered(principal, rest)
            added, rest = lowered(added, rest)
            over = plus(over, rest)
    return (principal, plus(added, interest(principal, rates, at, day)), over)


def clearing(bill, rates, way, day):
    """The clearing of the bill on the day."""
    principal, added, _ = owed(bill, rates, way, day)
    return rounded(plus(principal, added), "up")
