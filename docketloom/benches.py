"""Hours, judges, rooms and benches."""

from docketloom.days import check_day, is_day, weekday_of
from docketloom.errors import NotThere, OutOfRange
from docketloom.names import is_ascending, is_name, is_names, is_number, is_tuple

SLOTS = 16
WEEKDAYS = 7
MOST_ABSENCES = 10
MOST_RIGHTS = 8
MOST_JUDGES = 8
MOST_ROOMS = 8


def is_window(first, behind):
    """True if the values, of any kind, are the first slot and the one behind the last slot of a window."""
    return is_number(first, 0, SLOTS) and is_number(behind, 0, SLOTS) and first < behind


def is_hours(value):
    """True if the value, of any kind, is hours."""
    if not is_tuple(value, 4, 4):
        return False
    weekdays, first, behind, absences = value
    if not is_tuple(weekdays, 0, WEEKDAYS) or not all(is_number(item, 0, WEEKDAYS - 1) for item in weekdays):
        return False
    return is_ascending(weekdays) and is_window(first, behind) and are_absences(absences)


def are_absences(value):
    """True if the value, of any kind, is the absences of hours."""
    if not is_tuple(value, 0, MOST_ABSENCES) or not all(is_absence(item) for item in value):
        return False
    return all(value[at - 1][1] <= value[at][0] for at in range(1, len(value)))


def is_absence(value):
    """True if the value, of any kind, is one absence."""
    return is_tuple(value, 2, 2) and is_day(value[0]) and is_day(value[1]) and value[0] < value[1]


def is_bench(value):
    """True if the value, of any kind, is a bench."""
    if not is_tuple(value, 2, 2) or not is_tuple(value[0], 0, MOST_JUDGES) or not is_tuple(value[1], 0, MOST_ROOMS):
        return False
    judges, rooms = value
    if not all(is_judge(judge) for judge in judges) or not all(is_room(room) for room in rooms):
        return False
    return is_ascending([judge[0] for judge in judges]) and is_ascending([room[0] for room in rooms])


def is_judge(value):
    """True if the value, of any kind, is a judge."""
    return is_tuple(value, 3, 3) and is_name(value[0]) and is_names(value[1], 0, MOST_RIGHTS) and is_hours(value[2])


def is_room(value):
    """True if the value, of any kind, is a room."""
    return is_tuple(value, 2, 2) and is_name(value[0]) and is_hours(value[1])


def slots_of(hours, day):
    """The slots of the day that the hours have: the first one, and the one behind the last one."""
    weekdays, first, behind, absences = hours
    if weekday_of(day) not in weekdays or any(away <= day < back for away, back in absences):
        return (0, 0)
    return (first, behind)


def has_slot(hours, day, slot):
    """True if the hours have the slot of the day."""
    check_day(day)
    if not is_number(slot, 0, SLOTS - 1):
        raise OutOfRange("no such slot")
    first, behind = slots_of(hours, day)
    return first <= slot < behind


def judge_of(bench, name):
    """The judge of the bench with this name."""
    for judge in bench[0]:
        if judge[0] == name:
            return judge
    raise NotThere("no such judge")


def able_judges(bench, kind, day):
    """The ascending tuple of the names of the judges who may hear the kind, and have some slot of the day."""
    check_day(day)
    return tuple([name for name, rights, hours in bench[0] if kind in rights and slots_of(hours, day) != (0, 0)])


def rooms_in(bench, day):
    """The tuple of the numbers of the rooms that have each slot."""
    check_day(day)
    spans = [slots_of(hours, day) for _, hours in bench[1]]
    return tuple([len([first for first, behind in spans if first <= slot < behind]) for slot in range(SLOTS)])
