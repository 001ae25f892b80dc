"""The kinds of the days of one calendar, worked out where they are asked for and kept."""

from docketloom.civil import easter, length_of, number_at, year_of
from docketloom.days import END, runs_of, weekday_of

# Days are kept by blocks of so many, so that terms which begin close together share the work.
BLOCK = 64


def day_meant(mark, year):
    """The number of the day that a yearly tuple means in the year, or None."""
    if mark[0] == "date":
        _, month, day = mark
        return number_at(year, month, day) if day <= length_of(year, month) else None
    if mark[0] == "feast":
        return easter(year) + mark[1]
    return nth_weekday(year, mark[1], mark[2], mark[3])


def nth_weekday(year, month, weekday, nth):
    """The number of the n-th day with the weekday in the month (-1: the last one), or None."""
    first = number_at(year, month, 1)
    behind = first + length_of(year, month)
    found = list(range(first + (weekday - weekday_of(first)) % 7, behind, 7))
    if nth == -1:
        return found[-1]
    return found[nth - 1] if nth <= len(found) else None


class Openings:
    """What is open, shut and at rest in a calendar; what it has worked out is kept."""

    def __init__(self, calendar):
        closed, yearly, singles, recesses = calendar
        self._closed = closed
        self._yearly = yearly
        self._singles = {day: word for day, word in singles}
        self._recesses = recesses
        self._meant = {}
        self._blocks = {}

    def kind(self, day):
        """The kind of a day."""
        for first, behind in self._recesses:
            if first <= day < behind:
                return "rest"
        if day in self._singles:
            return self._singles[day]
        if weekday_of(day) in self._closed or self._is_meant(day):
            return "shut"
        return "open"

    def _is_meant(self, day):
        """True if one of the yearly tuples means the day."""
        if len(self._yearly) == 0:
            return False
        year = year_of(day)
        if year not in self._meant:
            self._meant[year] = {day_meant(mark, year): True for mark in self._yearly}
        return day in self._meant[year]

    def _block(self, which, number):
        """The days of a block that are open, or those that are not at rest."""
        if number not in self._blocks:
            days = range(number * BLOCK, min((number + 1) * BLOCK, END))
            kinds = [(day, self.kind(day)) for day in days]
            self._blocks[number] = {
                "open": [day for day, kind in kinds if kind == "open"],
                "awake": [day for day, kind in kinds if kind != "rest"],
            }
        return self._blocks[number][which]

    def _part(self, which, number, first, behind):
        """The days of a block from first on that are before behind."""
        days = self._block(which, number)
        if len(days) > 0 and first <= days[0] and days[-1] < behind:
            return days
        return [day for day in days if first <= day < behind]

    def find(self, which, first, behind, nth):
        """The n-th day, from first on and before behind, that is open, awake or any at all; or None."""
        if which == "all":
            return first + nth - 1 if first + nth - 1 < behind else None
        left = nth
        for number in range(first // BLOCK, (behind - 1) // BLOCK + 1):
            days = self._part(which, number, first, behind)
            if left <= len(days):
                return days[left - 1]
            left -= len(days)
        return None

    def find_last(self, first, behind):
        """The last open day from first on that is before behind; or None."""
        for number in reversed(range(first // BLOCK, (behind - 1) // BLOCK + 1)):
            days = self._part("open", number, first, behind)
            if len(days) > 0:
                return days[-1]
        return None

    def days(self, which, first, behind):
        """The list of the days from first on, before behind, that are open or awake."""
        blocks = range(first // BLOCK, (behind - 1) // BLOCK + 1)
        return [day for number in blocks for day in self._part(which, number, first, behind)]

    def many(self, which, first, behind):
        """The number of the days from first on, before behind, that are open, awake or any at all."""
        if which == "all":
            return max(0, behind - first)
        return len(self.days(which, first, behind))

    def runs(self, which, first, behind):
        """The longest runs of days from first on, before behind, that are open, awake or any at all."""
        if which == "all":
            return [(first, behind)] if first < behind else []
        return runs_of(self.days(which, first, behind))
