"""Terms under stays, by one rule in one calendar and by regimes."""

from docketloom.almanac import Almanac, check_span
from docketloom.days import check_day
from docketloom.errors import NotThere, OutOfRange
from docketloom.names import is_same
from docketloom.openings import Openings
from docketloom.reckoning import last_of, left_of, paper_for
from docketloom.stays import union_of


def last_under(calendar, rule, stays, start):
    """The last day of the term, or None if it stands still."""
    check_day(start)
    return last_of(Openings(calendar), rule, union_of(stays), start)


def paper_under(calendar, rule, stays, start):
    """The paper of the term, or None if it stands still."""
    check_day(start)
    return paper_for(Openings(calendar), rule, union_of(stays), start)


def shows_under(calendar, rule, stays, start, paper):
    """True if the value, of any kind, is the paper of the term."""
    try:
        return is_same(paper, paper_under(calendar, rule, stays, start))
    except NotThere:
        return False


def left_on(calendar, rule, stays, start, day):
    """What is left of the term on the day."""
    check_day(start)
    check_day(day)
    if day < start:
        raise OutOfRange("the day is before the start")
    return left_of(Openings(calendar), rule, union_of(stays), start, day)


def last_day(regimes, stays, start, word):
    """The last day of the term with the word, or None if it stands still."""
    check_day(start)
    return Almanac(regimes).last(union_of(stays), start, word)


def is_in_time(regimes, stays, start, word, day):
    """True if an act on the day is in time."""
    check_day(start)
    check_day(day)
    return Almanac(regimes).is_in_time(union_of(stays), start, word, day)


def starts_in_time(regimes, stays, word, day, low):
    """The runs of the starts in time for the day, from low on."""
    check_day(day)
    check_day(low)
    check_span(low, day)
    return Almanac(regimes).starts_in_time(union_of(stays), word, day, low)
