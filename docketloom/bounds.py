"""Promises, and the courses, states and moves within their bounds."""

from docketloom.errors import Malformed, OutOfRange
from docketloom.names import is_ascending, is_number, is_tuple

MOST_JUDGES = 4
MOST_KINDS = 4
LONGEST_TERM = 8
MOST_COUNT = 8
LONGEST_WINDOW = 6
LONGEST_COURSE = 400


def is_bound(value, least):
    """True if the value, of any kind, is a pair of a count, which is not below the least one, and a window."""
    return is_tuple(value, 2, 2) and is_number(value[0], least, MOST_COUNT) and is_number(value[1], 1, LONGEST_WINDOW)


def is_few_of(value, least, many):
    """True if the value, of any kind, is an ascending tuple of at least so many numbers below many."""
    if not is_tuple(value, least, many) or not all([is_number(item, 0, many - 1) for item in value]):
        return False
    return is_ascending(value)


def is_terms(value):
    """True if the tuple is a term, a count and a window of a kind."""
    term, count, window = value
    return is_number(term, 0, LONGEST_TERM) and is_bound((count, window), 1)


def is_promised(value, judges):
    """True if the value, of any kind, is a kind of causes of a promise with so many judges."""
    return is_tuple(value, 4, 4) and is_few_of(value[0], 1, judges) and is_terms(value[1:])


class Promise:
    """Judges, kinds of causes with their terms and bounds, and the bound of the absences."""

    def __init__(self, judges, kinds, absences):
        if not is_number(judges, 1, MOST_JUDGES) or not 1 <= len(kinds) <= MOST_KINDS:
            raise OutOfRange("not from 1 to 4 judges, or not from 1 to 4 kinds")
        for kind in kinds:
            if not is_promised(kind, judges):
                raise Malformed("no kind of causes")
        if not is_bound(absences, 0):
            raise Malformed("no bound of absences")
        self.judges = judges
        self.kinds = tuple(kinds)
        self.absences = absences


def are_counts(value, many):
    """True if the value, of any kind, is a tuple of so many numbers from 0 on."""
    if not is_tuple(value, many, many):
        return False
    return all([type(item) is int and item >= 0 for item in value])


def is_day(promise, value):
    """True if the value, of any kind, is a day."""
    if not is_tuple(value, 2, 2) or not are_counts(value[0], len(promise.kinds)):
        return False
    return is_few_of(value[1], 0, promise.judges)


def is_kept(numbers, bound):
    """True if the numbers of the days of each window of the bound come to at most its count."""
    count, window = bound
    # The windows that begin ahead of the first number, or end behind the last one, are parts of others.
    return all([sum(numbers[at:at + window]) <= count for at in range(max(1, len(numbers) - window + 1))])


def is_within(promise, course):
    """True if the list, of any values, is a course within the promise."""
    if type(course) is not list or len(course) > LONGEST_COURSE:
        return False
    if not all([is_day(promise, day) for day in course]):
        return False
    for at, kind in enumerate(promise.kinds):
        if not is_kept([filed[at] for filed, _ in course], (kind[2], kind[3])):
            return False
    return is_kept([len(absent) for _, absent in course], promise.absences)


def start_state(promise):
    """The start: zeros alone."""
    waiting = tuple([(0,) * kind[1] for kind in promise.kinds])
    pasts = tuple([(0,) * (kind[3] - 1) for kind in promise.kinds])
    return (waiting, pasts, (0,) * (promise.absences[1] - 1))


def is_state(promise, value):
    """True if the value, of any kind, is a state."""
    if not is_tuple(value, 3, 3):
        return False
    waiting, pasts, past = value
    many = len(promise.kinds)
    if not is_tuple(waiting, many, many) or not is_tuple(pasts, many, many):
        return False
    for at, kind in enumerate(promise.kinds):
        if not are_counts(waiting[at], kind[1]) or not are_counts(pasts[at], kind[3] - 1):
            return False
    return are_counts(past, promise.absences[1] - 1)


def room_of(past, bound):
    """How many the bound still lets be on a day behind the past; less than nought if the past is beyond it."""
    return bound[0] - sum(past)


def filed_rooms(promise, pasts):
    """The list of the most causes of each kind that can be filed behind the pasts."""
    return [room_of(past, (kind[2], kind[3])) for past, kind in zip(pasts, promise.kinds)]


def absent_sets(judges, most):
    """The ascending list of the tuples of at most so many absent judges; there are none below nought."""
    found = [()]
    for judge in range(judges):
        found = found + [absent + (judge,) for absent in found]
    return sorted([absent for absent in found if len(absent) <= most])


def moves(promise, state):
    """The ascending list of the moves in the state."""
    _, pasts, past = state
    rows = [()]
    for room in filed_rooms(promise, pasts):
        rows = [row + (filed,) for row in rows for filed in range(room + 1)]
    absents = absent_sets(promise.judges, room_of(past, promise.absences))
    return [(row, absent) for row in rows for absent in absents]


def many_moves(promise, state):
    """The number of the moves in the state."""
    _, pasts, past = state
    many = len(absent_sets(promise.judges, room_of(past, promise.absences)))
    for room in filed_rooms(promise, pasts):
        many *= max(0, room + 1)
    return many


def is_move(promise, state, move):
    """True if the value move, of any kind, is a move in the state."""
    if not is_day(promise, move):
        return False
    filed, absent = move
    _, pasts, past = state
    rooms = filed_rooms(promise, pasts)
    if not all([number <= room for number, room in zip(filed, rooms)]):
        return False
    return len(absent) <= room_of(past, promise.absences)
