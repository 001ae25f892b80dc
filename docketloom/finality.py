"""What may still change in a matter: endings, prices, ways, and what is final."""

from docketloom.days import LAST_DAY, is_day
from docketloom.errors import DocketError, Malformed
from docketloom.names import is_number, is_tuple
from docketloom.outlook import Outlook


def outlook_from(matter, day):
    """The outlook of the matter from the day on. Raises OutOfRange if it is no day, or before the last move."""
    matter.course.check_move_day(day)
    return Outlook(matter.course, day)


def index_of(matter, head):
    """The index of the head. Raises NotThere."""
    matter.course.standing(head)
    return [name for name, _, _ in matter.heads].index(head)


def endings(matter, day):
    """A dict with the price of each ending."""
    return outlook_from(matter, day).endings()


def may_end(matter, day, head):
    """A dict with the price of each value that the head has in some ending."""
    matter.course.check_move_day(day)
    at = index_of(matter, head)
    found = {}
    for ending, price in endings(matter, day).items():
        found[ending[at]] = min(price, found.get(ending[at], price))
    return found


def is_final(matter, day, head):
    """True if the head has the same value in all endings."""
    return len(may_end(matter, day, head)) == 1


def becomes_final(matter, day, head):
    """The day on which the head becomes final from the day on, or None."""
    matter.course.check_move_day(day)
    for turn in turning_days(matter.course, day):
        if is_final(matter, turn, head):
            return turn
    return None


def turning_days(course, day):
    """The ascending list of the day, and of the later days behind the last day of a term."""
    lasts = []
    for head, held in course.standings.items():
        if held.result is not None and held.level < course.top:
            lasts.append(course.clock.appeal_ends(held.level, held.day))
            lasts.extend([course.clock.answer_ends(start) for start in course.answer_starts(head, held)])
    found = {day: True}
    for last in lasts:
        if last is not None and day <= last < LAST_DAY:
            found[last + 1] = True
    return sorted(found)


def is_value(value):
    """True if the value, of any kind, is one that a head can have."""
    return value is None or is_number(value, 0, 1)


def way_to(matter, day, head, value):
    """A cheapest way from the day on behind which the head has the value, or None."""
    matter.course.check_move_day(day)
    at = index_of(matter, head)
    if not is_value(value):
        return None
    return outlook_from(matter, day).way(lambda ending: ending[at] == value, day)


def way_to_ending(matter, day, ending):
    """A cheapest way from the day on to the ending, or None."""
    matter.course.check_move_day(day)
    if not is_tuple(ending, len(matter.heads), len(matter.heads)) or not all(is_value(item) for item in ending):
        return None
    return outlook_from(matter, day).way(lambda other: other == ending, day)


def behind_way(matter, day, way):
    """The matter's course behind a way from the day on. Raises an error if the value, of any kind, is none."""
    if type(way) is not list:
        raise Malformed("no way")
    course = matter.course.twin()
    for move in way:
        if not is_tuple(move, 4, 4) or not is_day(move[0]) or move[0] < day:
            raise Malformed("no move from the day on")
        course.make(move)
    if course.waits():
        raise Malformed("a head waits")
    return course


def is_way(matter, day, way):
    """True if the value, of any kind, is a way from the day on."""
    matter.course.check_move_day(day)
    try:
        behind_way(matter, day, way)
    except DocketError:
        return False
    return True


def ending_of(matter, way):
    """The ending of the way."""
    try:
        return behind_way(matter, 0, way).ending()
    except DocketError:
        raise Malformed("no way")
