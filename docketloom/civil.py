"""Dates of the Gregorian calendar, months and Easter."""

from docketloom.days import LAST_DAY, check_day, weekday_of
from docketloom.errors import OutOfRange
from docketloom.names import is_number

LAST_YEAR = 2737
MONTHS = 12
MOST_MONTHS_LATER = 1000
LENGTHS = (31, 28, 31, 30, 31, 30, 31, 31, 30, 31, 30, 31)
DAYS_OF_400_YEARS = 146097
SUNDAY = 6


def has_leap_day(year):
    """True if the year, of whatever number, is a leap year."""
    return year % 4 == 0 and (year % 100 != 0 or year % 400 == 0)


def length_of(year, month):
    """The number of the days of a month, in a year of whatever number."""
    if month == 2 and has_leap_day(year):
        return 29
    return LENGTHS[month - 1]


def check_year(year):
    """Raises OutOfRange if the year is not from 0 to the last one."""
    if not is_number(year, 0, LAST_YEAR):
        raise OutOfRange("no such year")


def is_leap(year):
    """True if the year is a leap year."""
    check_year(year)
    return has_leap_day(year)


def month_days(year, month):
    """The number of the days of the month."""
    check_year(year)
    if not is_number(month, 1, MONTHS):
        raise OutOfRange("no such month")
    return length_of(year, month)


def year_start(year):
    """The number of the day with which a year begins, also behind the last day."""
    return 365 * year + (year + 3) // 4 - (year + 99) // 100 + (year + 399) // 400


def year_of(number):
    """The year of the number of a day, which may be behind the last one."""
    # This first guess is never too late a year.
    year = number * 400 // DAYS_OF_400_YEARS - 1
    while year_start(year + 1) <= number:
        year += 1
    return year


def number_at(year, month, day):
    """The number of the day with a date, also behind the last day."""
    return year_start(year) + sum([length_of(year, before) for before in range(1, month)]) + day - 1


def date_at(number):
    """The date of the number of a day, which may be behind the last one."""
    year = year_of(number)
    rest = number - year_start(year)
    month = 1
    while rest >= length_of(year, month):
        rest -= length_of(year, month)
        month += 1
    return (year, month, rest + 1)


def moved_by(number, months):
    """The number of the day that is so many months later, also behind the last day."""
    year, month, day = date_at(number)
    far = year * MONTHS + month - 1 + months
    year = far // MONTHS
    month = far % MONTHS + 1
    return number_at(year, month, min(day, length_of(year, month)))


def date_of(day):
    """The date of a day."""
    check_day(day)
    return date_at(day)


def day_of(year, month, day):
    """The day with this date."""
    if not is_number(day, 1, month_days(year, month)):
        raise OutOfRange("no such date")
    number = number_at(year, month, day)
    if number > LAST_DAY:
        raise OutOfRange("the date is behind the last day")
    return number


def months_later(day, months):
    """The day that is so many months later."""
    check_day(day)
    if not is_number(months, 0, MOST_MONTHS_LATER):
        raise OutOfRange("no such number of months")
    number = moved_by(day, months)
    if number > LAST_DAY:
        raise OutOfRange("the day would be behind the last one")
    return number


def easter_offset(year):
    """The number d of point 12: the days from the 21st of March to the day behind which Easter comes."""
    golden = year % 19
    century = year // 100
    offset = (19 * golden + 15 + century - century // 4 - (8 * century + 13) // 25) % 30
    if offset == 29:
        return 28
    if offset == 28 and golden > 10:
        return 27
    return offset


def easter(year):
    """The day of Easter."""
    check_year(year)
    number = number_at(year, 3, 21) + easter_offset(year)
    days_to_sunday = (SUNDAY - weekday_of(number) - 1) % 7 + 1
    return number + days_to_sunday
