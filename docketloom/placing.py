"""Placings of a day's hearings, lacks, rooms, and the first good day."""

from docketloom.benches import SLOTS, rooms_in, slots_of
from docketloom.days import LAST_DAY, check_day
from docketloom.errors import Malformed, OutOfRange
from docketloom.names import is_number
from docketloom.openings import Openings
from docketloom.seating import Seating
from docketloom.slots import is_part, usable

MOST_DAYS = 60


def seated(bench, day, hearings):
    """The hearings, ascending by their names, with the most slots given to them."""
    rows = sorted(hearings)
    seating = Seating([(row[1], usable(bench, day, row), row[2]) for row in rows], rooms_in(bench, day))
    seating.fill()
    return rows, seating


def told_part(rows, seating):
    """The part placing of hearings to which slots were given."""
    return [(row[0], tuple(sorted(given))) for row, given in zip(rows, seating.given)]


def is_full(rows, seating):
    """True if each hearing has as many slots as its length."""
    return all(len(given) == row[2] for row, given in zip(rows, seating.given))


def place(bench, day, hearings):
    """A placing, or None."""
    rows, seating = seated(bench, day, hearings)
    return told_part(rows, seating) if is_full(rows, seating) else None


def lack(bench, day, hearings):
    """A lack, or None."""
    rows, seating = seated(bench, day, hearings)
    return None if is_full(rows, seating) else cut_names(rows, seating)


def cut_names(rows, seating):
    """The names of the hearings whose supply is used up; there is no lack without them."""
    return tuple([rows[at][0] for at in seating.cut()])


def most_part(bench, day, hearings):
    """A part placing whose hearings have the most slots together."""
    rows, seating = seated(bench, day, hearings)
    return told_part(rows, seating)


def most_set(bench, day, hearings):
    """The names of hearings for which their supply and the demand of all others are least."""
    rows, seating = seated(bench, day, hearings)
    return cut_names(rows, seating)


def rooms_of(bench, day, hearings, value):
    """The list of the triples (slot, hearing, room) by which the rooms are given out."""
    if not is_part(bench, day, hearings, value):
        raise Malformed("no part placing")
    found = []
    for slot in range(SLOTS):
        rooms = [name for name, hours in bench[1] if slots_of(hours, day)[0] <= slot < slots_of(hours, day)[1]]
        names = [name for name, slots in value if slot in slots]
        found.extend([(slot, name, room) for name, room in zip(names, rooms)])
    return found


def first_good(bench, calendar, hearings, day, many):
    """The least good day among the day and the next ones, many days in all; or None."""
    check_day(day)
    if not is_number(many, 1, MOST_DAYS):
        raise OutOfRange("no such number of days")
    openings = Openings(calendar)
    hours = [judge[2] for judge in bench[0]] + [room[1] for room in bench[1]]
    # Days on which the hours have the same slots are alike.
    seen = {}
    for later in range(day, min(day + many, LAST_DAY + 1)):
        if openings.kind(later) == "open":
            key = tuple([slots_of(item, later) for item in hours])
            if key not in seen:
                if place(bench, later, hearings) is not None:
                    return later
                seen[key] = True
    return None
