"""Regimes: calendars and rules that change, and the terms by them."""

from docketloom.almanac import Almanac, check_span
from docketloom.calendars import is_calendar
from docketloom.days import check_day, is_day
from docketloom.errors import NotThere
from docketloom.names import is_ascending, is_name, is_one_of, is_tuple
from docketloom.terms import is_rule

MOST_RULES = 20
MOST_REGIMES = 12
WAYS = ("old", "new", "kind")


def is_regimes(value):
    """True if the value, of any kind, is regimes."""
    if not is_tuple(value, 2, 2) or not is_one_of(value[0], WAYS) or not is_tuple(value[1], 1, MOST_REGIMES):
        return False
    pairs = value[1]
    if not all(is_tuple(pair, 2, 2) and is_day(pair[0]) and is_regime(pair[1]) for pair in pairs):
        return False
    firsts = [first for first, _ in pairs]
    return firsts[0] == 0 and is_ascending(firsts)


def is_regime(value):
    """True if the value, of any kind, is a regime."""
    if not is_tuple(value, 2, 2) or not is_calendar(value[0]) or not is_tuple(value[1], 0, MOST_RULES):
        return False
    pairs = value[1]
    if not all(is_tuple(pair, 2, 2) and is_name(pair[0]) and is_rule(pair[1]) for pair in pairs):
        return False
    return is_ascending([word for word, _ in pairs])


def regime_at(regimes, day):
    """The regime that holds on the day."""
    check_day(day)
    return [regime for first, regime in regimes[1] if first <= day][-1]


def rule_at(regimes, day, word):
    """The rule with the word in the regime that holds on the day."""
    _, rules = regime_at(regimes, day)
    for other, rule in rules:
        if other == word:
            return rule
    raise NotThere("no rule with this word")


def last_by(regimes, start, word):
    """The last day of the term."""
    check_day(start)
    return Almanac(regimes).last((), start, word)


def history(regimes, start, word):
    """The history of the term."""
    check_day(start)
    return Almanac(regimes).steps((), start, word)


def is_in_time(regimes, start, word, day):
    """True if an act on the day is in time."""
    check_day(start)
    check_day(day)
    return Almanac(regimes).is_in_time((), start, word, day)


def starts_in_time(regimes, word, day, low):
    """The runs of the starts in time for the day, from low on."""
    check_day(day)
    check_day(low)
    check_span(low, day)
    return Almanac(regimes).starts_in_time((), word, day, low)


def least_inversion(regimes, word, low, high):
    """The least inversion between the days low and high, or None."""
    check_day(low)
    check_day(high)
    check_span(low, high)
    ends = ends_from(Almanac(regimes), word, low, high)
    for at, (start, last) in enumerate(ends):
        for later, other in ends[at + 1:]:
            if last > other:
                return (start, later)
    return None


def ends_from(almanac, word, low, high):
    """The starts from low to high that have last days, with these."""
    found = []
    for start in range(low, high + 1):
        try:
            last = almanac.last((), start, word)
        except NotThere:
            continue
        found.append((start, last))
    return found
