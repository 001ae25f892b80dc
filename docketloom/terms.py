"""Terms by one rule in one calendar, and the starts of terms, told from their last days."""

from docketloom.days import check_day
from docketloom.errors import NotThere
from docketloom.names import is_number, is_one_of, is_same, is_tuple
from docketloom.openings import Openings
from docketloom.reckoning import last_of, paper_for

MOST_COUNT = 1000
MOST_SHORT = 100
UNITS = ("days", "open", "weeks", "months")
ROLLS = ("on", "back", "no")


def is_rule(value):
    """True if the value, of any kind, is a rule."""
    if not is_tuple(value, 5, 5):
        return False
    count, unit, since, roll, short = value
    if not is_one_of(unit, UNITS) or not is_one_of(since, ("day", "next")) or not is_one_of(roll, ROLLS):
        return False
    least = 1 if since == "day" else 0
    most_short = MOST_SHORT if unit == "days" else 0
    return is_number(count, least, MOST_COUNT) and is_number(short, 0, most_short)


def last_day(calendar, rule, start):
    """The last day of the term."""
    check_day(start)
    return last_of(Openings(calendar), rule, (), start)


def paper_of(calendar, rule, start):
    """The paper of the term."""
    check_day(start)
    return paper_for(Openings(calendar), rule, (), start)


def shows_last(calendar, rule, start, paper):
    """True if the value, of any kind, is the paper of the term."""
    try:
        return is_same(paper, paper_of(calendar, rule, start))
    except NotThere:
        return False


def last_start(calendar, rule, day):
    """The last start for the day, or None."""
    check_day(day)
    return greatest_start(Openings(calendar), rule, day)


def first_start(calendar, rule, day):
    """The first start for the day."""
    check_day(day)
    if day == 0:
        return 0
    before = greatest_start(Openings(calendar), rule, day - 1)
    return 0 if before is None else before + 1


def ends_by(openings, rule, start, day):
    """True if the term has a last day that is not behind the day."""
    try:
        return last_of(openings, rule, (), start) <= day
    except NotThere:
        return False


def greatest_start(openings, rule, day):
    """The greatest start whose term has a last day that is not behind the day, or None."""
    # A later start never has an earlier last day, so the starts that are early enough come first. The one that is
    # looked for is mostly near the day: steps back from there grow until one is early enough.
    low = day
    high = day + 1
    step = 1
    while low > 0 and not ends_by(openings, rule, low, day):
        high = low
        low = max(0, low - step)
        step = 2 * step
    if not ends_by(openings, rule, low, day):
        return None
    while high - low > 1:
        middle = (low + high) // 2
        if ends_by(openings, rule, middle, day):
            low = middle
        else:
            high = middle
    return low
