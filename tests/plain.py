"""The same things reckoned another way: day by day, and slowly, with Python's own dates."""

import datetime

LAST = 1000000
# Python's dates begin with the year 1; the Gregorian calendar repeats itself after 400 years.
CYCLE = 146097


def date(day):
    told = datetime.date.fromordinal(day + CYCLE - 365)
    return (told.year - 400, told.month, told.day)


def day_at(year, month, day):
    return datetime.date(year + 400, month, day).toordinal() + 365 - CYCLE


def month_length(year, month):
    behind = day_at(year + month // 12, month % 12 + 1, 1)
    return behind - day_at(year, month, 1)


def weekday(day):
    return datetime.date.fromordinal(day + CYCLE - 365).weekday()


def months_later(day, months):
    year, month, at = date(day)
    for _ in range(months):
        month += 1
        if month == 13:
            year, month = year + 1, 1
    return day_at(year, month, min(at, month_length(year, month)))


def easter(year):
    """The well-known reckoning of Meeus, Jones and Butcher."""
    a, b, c = year % 19, year // 100, year % 100
    d, e = divmod(b, 4)
    g = (8 * b + 13) // 25
    h = (19 * a + b - d - g + 15) % 30
    i, k = divmod(c, 4)
    m = (32 + 2 * e + 2 * i - h - k) % 7
    n = (a + 11 * h + 22 * m) // 451
    month, day = divmod(h + m - 7 * n + 114, 31)
    return day_at(year, month, day + 1)


def is_meant(mark, day):
    year, month, at = date(day)
    if mark[0] == "date":
        return mark[1:] == (month, at)
    if mark[0] == "feast":
        return day - mark[1] == easter(year)
    if mark[1] != month or mark[2] != weekday(day):
        return False
    if mark[3] == -1:
        return at + 7 > month_length(year, month)
    return (at - 1) // 7 + 1 == mark[3]


def kind(calendar, day):
    closed, yearly, singles, recesses = calendar
    if any(first <= day < behind for first, behind in recesses):
        return "rest"
    for single, word in singles:
        if single == day:
            return word
    if weekday(day) in closed or any(is_meant(mark, day) for mark in yearly):
        return "shut"
    return "open"


class Kinds:
    """The kinds of a calendar's days, kept."""

    def __init__(self, calendar):
        self.calendar = calendar
        self.kept = {}

    def __call__(self, day):
        if day not in self.kept:
            self.kept[day] = kind(self.calendar, day)
        return self.kept[day]
