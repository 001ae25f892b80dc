"""Days and weekdays."""

from docketloom.errors import OutOfRange
from docketloom.names import is_number

LAST_DAY = 1000000
# The day behind all days, which is none itself.
END = 1000001
WEEK = 7
# The day 0 is a Saturday.
FIRST_WEEKDAY = 5


def is_day(value):
    """True if the value, of any kind, is a day."""
    return is_number(value, 0, LAST_DAY)


def check_day(day):
    """Raises OutOfRange if the value, of any kind, is no day."""
    if not is_day(day):
        raise OutOfRange("no day")


def weekday_of(number):
    """The weekday of the number of a day, which may be behind the last one."""
    return (number + FIRST_WEEKDAY) % WEEK


def weekday(day):
    """The weekday of a day."""
    check_day(day)
    return weekday_of(day)


def runs_of(days):
    """The longest runs (first, behind) of an ascending list of days."""
    runs = []
    first = None
    before = None
    for day in days:
        if first is None:
            first = day
        elif day != before + 1:
            runs.append((first, before + 1))
            first = day
        before = day
    if first is not None:
        runs.append((first, before + 1))
    return runs
