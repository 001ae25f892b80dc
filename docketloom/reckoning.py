"""The reckoning of one term, by a rule in a calendar, under stays.

The stays come as their union: ascending triples (first, behind, state), as stays.union_of tells them. Without stays it
is the empty tuple, and the terms are those of part 1.
"""

from docketloom.civil import moved_by
from docketloom.days import END
from docketloom.errors import NotThere


def which_count(rule):
    """Which days count by a rule: open ones, those that are awake (not at rest), or all."""
    count, unit, _, _, short = rule
    if unit == "open" or (unit == "days" and count < short):
        return "open"
    if unit == "days":
        return "awake"
    return "all"


def first_begin(rule, start):
    """The begin with which a term starts; it may be the day -1."""
    return start if rule[2] == "next" else start - 1


def need_from(rule, begin):
    """How many days a term needs behind a begin."""
    count, unit, since, _, _ = rule
    if unit == "weeks":
        return 7 * count
    if unit == "months":
        origin = begin if since == "next" else begin + 1
        return moved_by(origin, count) - origin
    return count


def floor_of(rule, start, begin):
    """The floor of a term with its last begin."""
    return start if begin == first_begin(rule, start) else begin + 1


def gone_through(openings, rule, stayed, start, end):
    """Goes through the days ahead of the end: tells begin, need and counted days then, and the full day or None."""
    which = which_count(rule)
    begin = first_begin(rule, start)
    need = need_from(rule, begin)
    if need == 0:
        return (begin, 0, 0, start)
    counted = 0
    at = begin + 1
    for first, behind, state in stayed + ((end, None, "runs"),):
        stop = min(first, end)
        if at < stop:
            full = openings.find(which, at, stop, need - counted)
            if full is not None:
                return (begin, need, need, full)
            counted += openings.many(which, at, stop)
            at = stop
        stop = end if behind is None else min(behind, end)
        # Of several days with which the term begins anew, only the last one matters.
        if state == "anew" and at < stop:
            begin = stop - 1
            need = need_from(rule, begin)
            counted = 0
        at = max(at, stop)
    return (begin, need, counted, None)


def stretches(stayed, first, behind):
    """The longest stretches of days from first on, before behind, that no stay has."""
    found = []
    at = first
    for stay_first, stay_behind, _ in stayed:
        stop = min(stay_first, behind)
        if at < stop:
            found.append((at, stop))
        if stay_behind is None:
            return found
        at = max(at, stay_behind)
    if at < behind:
        found.append((at, behind))
    return found


def without_day(stayed):
    """None, for a term that stands still, if a stay is open; raises NotThere otherwise."""
    if len(stayed) > 0 and stayed[-1][1] is None:
        return None
    raise NotThere("the term has no last day")


def rolled(openings, roll, stayed, floor, full):
    """The last day of a term with a floor and a full day, or None if it stands still."""
    if roll == "no":
        return full
    if roll == "on":
        for first, behind in stretches(stayed, full, END):
            found = openings.find("open", first, behind, 1)
            if found is not None:
                return found
        return without_day(stayed)
    for first, behind in reversed(stretches(stayed, floor, full + 1)):
        found = openings.find_last(first, behind)
        if found is not None:
            return found
    return floor


def last_of(openings, rule, stayed, start):
    """The last day of a term, or None if it stands still; raises NotThere if it has none."""
    begin, _, _, full = gone_through(openings, rule, stayed, start, END)
    if full is None:
        return without_day(stayed)
    return rolled(openings, rule[3], stayed, floor_of(rule, start, begin), full)


def paper_for(openings, rule, stayed, start):
    """The paper of a term, or None if it stands still; raises NotThere if it has no last day."""
    begin, need, _, full = gone_through(openings, rule, stayed, start, END)
    if full is None:
        return without_day(stayed)
    last = rolled(openings, rule[3], stayed, floor_of(rule, start, begin), full)
    if last is None:
        return None
    which = which_count(rule)
    runs = [run for first, behind in stretches(stayed, begin + 1, full + 1)
            for run in openings.runs(which, first, behind)]
    return (begin, need, tuple(runs), full, last)


def left_of(openings, rule, stayed, start, day):
    """What is left of a term on a day that is not before its start."""
    _, need, counted, full = gone_through(openings, rule, stayed, start, day + 1)
    return need - counted if full is None else 0
