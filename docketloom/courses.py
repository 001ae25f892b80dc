"""Dealings of a day's causes to the judges, and the courses of days that are dealt."""

from docketloom.bounds import is_within, start_state
from docketloom.errors import Malformed, Refused
from docketloom.names import is_number, is_tuple


def filed_rows(promise, state, move):
    """The tuple of the waiting causes of all kinds behind the move."""
    return tuple([row + (filed,) for row, filed in zip(state[0], move[0])])


def may_hear(promise, judge, kind):
    """True if the judge may hear causes of the kind."""
    return judge in promise.kinds[kind][0]


def is_lawful(promise, state, move, dealing):
    """True if the value dealing, of any kind, is a lawful dealing."""
    if not is_tuple(dealing, promise.judges, promise.judges):
        return False
    for judge, kind in enumerate(dealing):
        if not is_number(kind, -1, len(promise.kinds) - 1):
            return False
        if kind >= 0 and (judge in move[1] or not may_hear(promise, judge, kind)):
            return False
    rows = filed_rows(promise, state, move)
    return all([dealing.count(kind) <= sum(row) for kind, row in enumerate(rows)])


def dealings_of(promise, absent, many):
    """The ascending list of the lawful dealings, if so many causes of each kind wait."""
    found = [()]
    for judge in range(promise.judges):
        kinds = [-1]
        if judge not in absent:
            kinds.extend([kind for kind in range(len(many)) if may_hear(promise, judge, kind)])
        found = [dealing + (kind,) for dealing in found for kind in kinds
                 if kind < 0 or dealing.count(kind) < many[kind]]
    return found


def dealings(promise, state, move):
    """The ascending list of the lawful dealings."""
    return dealings_of(promise, move[1], [sum(row) for row in filed_rows(promise, state, move)])


def behind_hearing(row, many):
    """The waiting causes of a kind when so many were heard, those with the fewest days left first."""
    left = []
    for number in row:
        heard = min(number, many)
        many -= heard
        left.append(number - heard)
    return tuple(left)


def later(past, number):
    """The past, when a day with the number is over."""
    return (past + (number,))[1:]


def dealt_morning(promise, state, move, dealing):
    """The next state behind a lawful dealing, or None if the day falls."""
    rows = [behind_hearing(row, dealing.count(kind)) for kind, row in enumerate(filed_rows(promise, state, move))]
    if any([row[0] > 0 for row in rows]):
        return None
    pasts = tuple([later(past, filed) for past, filed in zip(state[1], move[0])])
    return (tuple([row[1:] for row in rows]), pasts, later(state[2], len(move[1])))


def next_morning(promise, state, move, dealing):
    """The next state, or None if the day falls."""
    if not is_lawful(promise, state, move, dealing):
        raise Refused("no lawful dealing")
    return dealt_morning(promise, state, move, dealing)


def most_urgent(rows, kinds):
    """The kind, of these, with the cause that has the fewest days left, the lower one of equals; -1 if none waits."""
    found = [(at, kind) for kind in kinds for at, number in enumerate(rows[kind]) if number > 0]
    return min(found)[1] if len(found) > 0 else -1


def earliest_first(promise, state, move):
    """The dealing that hears the causes with the fewest days left first."""
    rows = list(filed_rows(promise, state, move))
    dealing = []
    for judge in range(promise.judges):
        kinds = [kind for kind in range(len(rows)) if may_hear(promise, judge, kind)]
        kind = -1 if judge in move[1] else most_urgent(rows, kinds)
        if kind >= 0:
            rows[kind] = behind_hearing(rows[kind], 1)
        dealing.append(kind)
    return tuple(dealing)


def run_course(promise, course, dealer):
    """The list of the states of all mornings; if a day falls, up to the one of this day."""
    if not is_within(promise, course) or len(dealer) != len(course):
        raise Malformed("no course within the promise, or not one dealing for each day")
    state = start_state(promise)
    found = [state]
    for move, dealing in zip(course, dealer):
        state = next_morning(promise, state, move, dealing)
        if state is None:
            break
        found.append(state)
    return found
