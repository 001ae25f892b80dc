"""Pledges of a bench, filings, and the courses of court days that they make."""

from docketloom.benches import slots_of
from docketloom.bounds import LONGEST_COURSE, MOST_JUDGES, MOST_KINDS, Promise, is_bound, is_terms
from docketloom.days import END, check_day, is_day
from docketloom.errors import NotThere, OutOfRange, Refused
from docketloom.names import is_ascending, is_name, is_number, is_tuple
from docketloom.openings import Openings

MOST_FILINGS = 200
NO_SLOTS = (0, 0)


def is_pledge(value):
    """True if the value, of any kind, is a pledge."""
    if not is_tuple(value, 2, 2) or not is_tuple(value[0], 1, MOST_KINDS) or not is_bound(value[1], 0):
        return False
    if not all([is_tuple(row, 4, 4) and is_name(row[0]) and is_terms(row[1:]) for row in value[0]]):
        return False
    return is_ascending([row[0] for row in value[0]])


def judges_for(bench, kind):
    """The tuple of the numbers of the judges of the bench who have the right for the kind."""
    return tuple([at for at, judge in enumerate(bench[0]) if kind in judge[1]])


def suits(pledge, bench):
    """True if the pledge suits the bench."""
    if not 1 <= len(bench[0]) <= MOST_JUDGES:
        return False
    return all([judges_for(bench, row[0]) != () for row in pledge[0]])


def check_suits(pledge, bench):
    """Raises Refused if the pledge does not suit the bench."""
    if not suits(pledge, bench):
        raise Refused("the pledge does not suit the bench")


def promise_of(pledge, bench):
    """The promise of a pledge for the bench."""
    check_suits(pledge, bench)
    rows, absences = pledge
    return Promise(len(bench[0]), [(judges_for(bench, row[0]),) + row[1:] for row in rows], absences)


def court_days(calendar, day, many):
    """The list of the first so many court days from the day on."""
    check_day(day)
    if not is_number(many, 0, LONGEST_COURSE):
        raise OutOfRange("no such number of court days")
    openings = Openings(calendar)
    found = []
    while len(found) < many:
        day = openings.find("open", day, END, 1) if day < END else None
        if day is None:
            raise NotThere("not so many court days")
        found.append(day)
        day += 1
    return found


def is_filings(pledge, value):
    """True if the value, of any kind, is filings."""
    if type(value) is not list or len(value) > MOST_FILINGS or not all([is_tuple(row, 3, 3) for row in value]):
        return False
    kinds = [row[0] for row in pledge[0]]
    if not all([is_name(cause) and is_name(kind) and kind in kinds and is_day(day) for cause, kind, day in value]):
        return False
    return is_ascending(sorted([cause for cause, _, _ in value]))


def number_of_day(days, day):
    """The number of the first of the court days that is not before the day; as many as there are if there is none."""
    low = 0
    high = len(days)
    while low < high:
        middle = (low + high) // 2
        if days[middle] < day:
            low = middle + 1
        else:
            high = middle
    return low


def counted(filings, days):
    """The list of the pairs (number of the court day, cause) of the filings that are counted."""
    found = [(number_of_day(days, day), cause) for cause, _, day in filings]
    return sorted([row for row in found if row[0] < len(days)])


def absent_on(bench, day):
    """The tuple of the numbers of the judges whose hours have no slot of the day."""
    return tuple([at for at, judge in enumerate(bench[0]) if slots_of(judge[2], day) == NO_SLOTS])


def course_of(pledge, bench, filings, days):
    """The course of the filings for the court days."""
    check_suits(pledge, bench)
    places = {row[0]: at for at, row in enumerate(pledge[0])}
    kinds = {cause: kind for cause, kind, _ in filings}
    filed = [[0] * len(places) for _ in days]
    for number, cause in counted(filings, days):
        filed[number][places[kinds[cause]]] += 1
    return [(tuple(row), absent_on(bench, day)) for row, day in zip(filed, days)]
