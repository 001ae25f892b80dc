"""Calendars, and the kinds of days."""

from docketloom.civil import MONTHS, month_days
from docketloom.days import END, check_day, is_day
from docketloom.errors import NotThere, OutOfRange
from docketloom.names import is_ascending, is_number, is_one_of, is_tuple
from docketloom.openings import Openings

MOST_CLOSED = 6
MOST_YEARLY = 40
MOST_SINGLES = 200
MOST_RECESSES = 30
LONGEST_RECESS = 200
FARTHEST_FEAST = 60
# Each day that a month has in some year, it has in a leap year.
SOME_LEAP_YEAR = 2000
LONGEST_STRETCH = 400


def is_calendar(value):
    """True if the value, of any kind, is a calendar."""
    if not is_tuple(value, 4, 4):
        return False
    closed, yearly, singles, recesses = value
    return are_closed(closed) and are_yearly(yearly) and are_singles(singles) and are_recesses(recesses)


def are_closed(value):
    """True if the value is the closed weekdays of a calendar."""
    if not is_tuple(value, 0, MOST_CLOSED):
        return False
    return all(is_number(item, 0, 6) for item in value) and is_ascending(value)


def are_yearly(value):
    """True if the value is the yearly tuples of a calendar."""
    if not is_tuple(value, 0, MOST_YEARLY):
        return False
    return all(is_mark(item) for item in value) and is_ascending(value)


def is_mark(value):
    """True if the value is one yearly tuple."""
    if not is_tuple(value, 2, 4) or not is_one_of(value[0], ("date", "feast", "nth")):
        return False
    if value[0] == "feast":
        return len(value) == 2 and is_number(value[1], -FARTHEST_FEAST, FARTHEST_FEAST)
    if not is_number(value[1], 1, MONTHS):
        return False
    if value[0] == "date":
        return len(value) == 3 and is_number(value[2], 1, month_days(SOME_LEAP_YEAR, value[1]))
    if len(value) != 4 or not is_number(value[2], 0, 6):
        return False
    return is_number(value[3], 1, 5) or is_number(value[3], -1, -1)


def are_singles(value):
    """True if the value is the singles of a calendar."""
    if not is_tuple(value, 0, MOST_SINGLES) or not all(is_single(item) for item in value):
        return False
    return is_ascending([day for day, _ in value])


def is_single(value):
    """True if the value is a pair of a day and its word."""
    return is_tuple(value, 2, 2) and is_day(value[0]) and is_one_of(value[1], ("open", "shut"))


def are_recesses(value):
    """True if the value is the recesses of a calendar."""
    if not is_tuple(value, 0, MOST_RECESSES) or not all(is_recess(item) for item in value):
        return False
    return all(value[at - 1][1] <= value[at][0] for at in range(1, len(value)))


def is_recess(value):
    """True if the value is one recess."""
    if not is_tuple(value, 2, 2) or not is_day(value[0]) or not is_day(value[1]):
        return False
    return 1 <= value[1] - value[0] <= LONGEST_RECESS


def kind_of(calendar, day):
    """The kind of the day."""
    check_day(day)
    return Openings(calendar).kind(day)


def check_stretch(first, behind):
    """Raises OutOfRange if these are no stretch of at most 400 days."""
    check_day(first)
    check_day(behind)
    if not 0 <= behind - first <= LONGEST_STRETCH:
        raise OutOfRange("no such stretch of days")


def open_days(calendar, first, behind):
    """The number of the open days from first on that are before behind."""
    check_stretch(first, behind)
    return Openings(calendar).many("open", first, behind)


def next_open(calendar, day):
    """The first open day from the day on."""
    check_day(day)
    found = Openings(calendar).find("open", day, END, 1)
    if found is None:
        raise NotThere("no open day from this day on")
    return found


def last_open(calendar, day):
    """The last open day up to the day."""
    check_day(day)
    found = Openings(calendar).find_last(0, day + 1)
    if found is None:
        raise NotThere("no open day up to this day")
    return found


def same_kinds(calendar, other, first, behind):
    """True if each day from first on that is before behind has the same kind in both."""
    check_stretch(first, behind)
    one = Openings(calendar)
    two = Openings(other)
    return all(one.kind(day) == two.kind(day) for day in range(first, behind))
