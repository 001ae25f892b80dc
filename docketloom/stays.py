"""Stays: what they are, what they touch, and the states of days."""

from docketloom.days import check_day, is_day
from docketloom.errors import NotThere, Refused
from docketloom.names import is_name, is_number, is_one_of, is_tuple

MOST_STAYS = 100
MODES = ("rests", "anew")


def is_scope(scope, name):
    """True if the values, of any kind, are a scope and the name that belongs to it."""
    if is_one_of(scope, ("cause", "party")):
        return is_name(name)
    return is_one_of(scope, ("all",)) and is_one_of(name, ("",))


def is_stay(value):
    """True if the value, of any kind, is a stay."""
    if not is_tuple(value, 5, 5):
        return False
    scope, name, first, behind, mode = value
    if not is_scope(scope, name) or not is_day(first) or not is_one_of(mode, MODES):
        return False
    return behind is None or (is_day(behind) and first < behind)


def is_stays(value):
    """True if the value, of any kind, is stays."""
    return is_tuple(value, 0, MOST_STAYS) and all(is_stay(item) for item in value)


def touches(stay, cause, party):
    """True if the stay touches a term of the cause and the party."""
    scope, name, _, _, _ = stay
    if scope == "all":
        return True
    return name == (cause if scope == "cause" else party)


def touching(stays, cause, party):
    """The tuple of the stays that touch a term of the cause and the party."""
    return tuple([stay for stay in stays if touches(stay, cause, party)])


def has_day(stay, day):
    """True if the stay has the day."""
    _, _, first, behind, _ = stay
    return first <= day and (behind is None or day < behind)


def state_of(stays, day):
    """The state of the day."""
    check_day(day)
    return state_by([stay[4] for stay in stays if has_day(stay, day)])


def state_by(modes):
    """The state of a day that stays with these modes have."""
    if "anew" in modes:
        return "anew"
    return "rests" if "rests" in modes else "runs"


def union_of(stays):
    """The union of the stays."""
    turns = [(first, mode, 1) for _, _, first, _, mode in stays]
    turns += [(behind, mode, -1) for _, _, _, behind, mode in stays if behind is not None]
    going = {"anew": 0, "rests": 0}
    found = []
    since = 0
    for day, mode, change in sorted(turns):
        if since < day:
            add_run(found, since, day, state_by([kept for kept in MODES if going[kept] > 0]))
            since = day
        going[mode] += change
    add_run(found, since, None, state_by([kept for kept in MODES if going[kept] > 0]))
    return tuple(found)


def add_run(found, first, behind, state):
    """Adds days with the same state to the runs that were found, as part of the last one if they follow it."""
    if state == "runs":
        return
    if len(found) > 0 and found[-1][1] == first and found[-1][2] == state:
        found[-1] = (found[-1][0], behind, state)
    else:
        found.append((first, behind, state))


def lifted(stays, number, day):
    """The stays with the one with this number lifted on the day."""
    check_day(day)
    if not is_number(number, 0, len(stays) - 1):
        raise NotThere("no stay with this number")
    scope, name, first, behind, mode = stays[number]
    if behind is not None and behind <= day:
        raise Refused("the stay has ended")
    # A stay that is lifted on its first day, or before it, is taken out.
    kept = ((scope, name, first, day, mode),) if first < day else ()
    return stays[:number] + kept + stays[number + 1:]
