"""Hearings and lists, the slots that they can use, demand and supply, placings and lacks."""

from docketloom.benches import SLOTS, is_window, judge_of, rooms_in, slots_of
from docketloom.days import check_day
from docketloom.errors import NotThere
from docketloom.names import is_ascending, is_name, is_number, is_tuple

MOST_HEARINGS = 24


def is_list(bench, value):
    """True if the value, of any kind, is a list of the bench."""
    if type(value) is not list or len(value) > MOST_HEARINGS or not all(is_hearing(item) for item in value):
        return False
    judges = [judge[0] for judge in bench[0]]
    if not all(hearing[1] in judges for hearing in value):
        return False
    return is_ascending(sorted([hearing[0] for hearing in value]))


def is_hearing(value):
    """True if the value, of any kind, is a hearing."""
    if not is_tuple(value, 5, 5) or not is_name(value[0]) or not is_name(value[1]):
        return False
    return is_number(value[2], 1, SLOTS) and is_window(value[3], value[4])


def usable(bench, day, hearing):
    """The ascending tuple of the slots that the hearing can use."""
    check_day(day)
    _, judge, _, first, behind = hearing
    start, stop = slots_of(judge_of(bench, judge)[2], day)
    return tuple(range(max(first, start), min(behind, stop)))


def chosen_hearings(hearings, names):
    """The list of the hearings with these names. Raises NotThere."""
    by_name = {hearing[0]: hearing for hearing in hearings}
    if not all(name in by_name for name in names):
        raise NotThere("no such hearing")
    return [by_name[name] for name in names]


def demand(hearings, names):
    """The demand of the hearings with these names."""
    return sum([length for _, _, length, _, _ in chosen_hearings(hearings, names)])


def supply(bench, day, hearings, names):
    """The supply of the hearings with these names."""
    check_day(day)
    judges = [{} for _ in range(SLOTS)]
    for hearing in chosen_hearings(hearings, names):
        for slot in usable(bench, day, hearing):
            judges[slot][hearing[1]] = True
    return sum([min(rooms, len(held)) for rooms, held in zip(rooms_in(bench, day), judges)])


def are_slots(value, most, able):
    """True if the value, of any kind, is an ascending tuple of at most so many of the slots."""
    if not is_tuple(value, 0, most) or not all(is_number(item, 0, SLOTS - 1) for item in value):
        return False
    return is_ascending(value) and all(slot in able for slot in value)


def is_part(bench, day, hearings, value):
    """True if the value, of any kind, is a part placing."""
    check_day(day)
    by_name = sorted(hearings)
    if type(value) is not list or len(value) != len(by_name):
        return False
    taken = {}
    used = [0] * SLOTS
    for item, hearing in zip(value, by_name):
        name, judge, length, _, _ = hearing
        if not is_tuple(item, 2, 2) or not is_name(item[0]) or item[0] != name:
            return False
        if not are_slots(item[1], length, usable(bench, day, hearing)):
            return False
        for slot in item[1]:
            if (judge, slot) in taken:
                return False
            taken[(judge, slot)] = True
            used[slot] += 1
    return all(many <= rooms for many, rooms in zip(used, rooms_in(bench, day)))


def is_placing(bench, day, hearings, value):
    """True if the value, of any kind, is a placing."""
    if not is_part(bench, day, hearings, value):
        return False
    return sum([len(slots) for _, slots in value]) == sum([length for _, _, length, _, _ in hearings])


def is_lack(bench, day, hearings, value):
    """True if the value, of any kind, is a lack."""
    check_day(day)
    names = [hearing[0] for hearing in hearings]
    if not is_tuple(value, 0, len(names)) or not all(is_name(item) and item in names for item in value):
        return False
    return is_ascending(value) and demand(hearings, value) > supply(bench, day, hearings, value)
