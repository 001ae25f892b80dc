"""Wheels, by which causes are dealt to judges, and logs of dealings."""

from docketloom.errors import Refused
from docketloom.names import is_ascending, is_name, is_names, is_number, is_tuple

MOST_JUDGES = 8
MOST_WEIGHT = 6


def is_wheel(value):
    """True if the value, of any kind, is a wheel."""
    if not is_tuple(value, 1, MOST_JUDGES):
        return False
    if not all(is_tuple(item, 2, 2) and is_name(item[0]) and is_number(item[1], 1, MOST_WEIGHT) for item in value):
        return False
    return is_ascending([judge for judge, _ in value])


def is_log(value):
    """True if the value, of any kind, is a log, right or not."""
    return type(value) is list and all(is_log_row(item) for item in value)


def is_log_row(value):
    """True if the value, of any kind, is one entry of a log."""
    if not is_tuple(value, 4, 4) or not is_name(value[0]) or not is_name(value[3]):
        return False
    _, barred, draw, _ = value
    return type(barred) is tuple and is_names(barred, 0, len(barred)) and type(draw) is int and draw >= 0


def full_state(wheel):
    """The full state."""
    return tuple([weight for _, weight in wheel])


def ready(wheel, state, barred):
    """The state, filled if need be, and the cards that the judges have who are able. Raises Refused."""
    able = [judge not in barred for judge, _ in wheel]
    if not any(able):
        raise Refused("nobody is able")
    cards = [held if is_able else 0 for held, is_able in zip(state, able)]
    if sum(cards) > 0:
        return state, cards
    filled = tuple([held + weight for held, (_, weight) in zip(state, wheel)])
    return filled, [held if is_able else 0 for held, is_able in zip(filled, able)]


def taken(state, at):
    """The state with one card of the judge with this index taken out."""
    return state[:at] + (state[at] - 1,) + state[at + 1:]


def deal(wheel, state, barred, draw):
    """The judge to whom a cause goes, and the next state."""
    filled, cards = ready(wheel, state, barred)
    number = draw % sum(cards)
    at = 0
    while number >= cards[at]:
        number -= cards[at]
        at += 1
    return (wheel[at][0], taken(filled, at))


def first_fault(wheel, log):
    """The index of the first fault of the log, or None."""
    state = full_state(wheel)
    for at, (_, barred, draw, judge) in enumerate(log):
        try:
            dealt_to, state = deal(wheel, state, barred, draw)
        except Refused:
            return at
        if dealt_to != judge:
            return at
    return None


def run_wheel(wheel, causes):
    """The right log of the causes, and the state behind it."""
    state = full_state(wheel)
    log = []
    for cause, barred, draw in causes:
        judge, state = deal(wheel, state, barred, draw)
        log.append((cause, barred, draw, judge))
    return (log, state)


def fills(wheel, log):
    """How often the wheel is filled in a right log."""
    if first_fault(wheel, log) is not None:
        raise Refused("the log is not right")
    _, state = run_wheel(wheel, [row[:3] for row in log])
    # Each dealing takes one card out, and each filling puts all weights in.
    weights = sum(full_state(wheel))
    return (sum(state) + len(log) - weights) // weights
