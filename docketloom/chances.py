"""The chances of dealings, records and tails."""

from math import lcm

from docketloom.errors import NotThere, Refused, TooMuch
from docketloom.parts import lowest, times
from docketloom.wheels import full_state, ready, taken

MOST_STATES = 3000
NOUGHT = (0, 1)


def chances(wheel, state, barred):
    """The ascending tuple of the pairs (judge, chance) of the judges to whom a cause can go."""
    _, cards = ready(wheel, state, barred)
    return tuple([(judge, lowest(many, sum(cards))) for (judge, _), many in zip(wheel, cards) if many > 0])


def chance_of(wheel, record):
    """The chance of the record."""
    judges = [judge for judge, _ in wheel]
    state = full_state(wheel)
    found = (1, 1)
    for _, barred, judge in record:
        if judge not in judges or all(other in barred for other in judges):
            return NOUGHT
        state, cards = ready(wheel, state, barred)
        at = judges.index(judge)
        if cards[at] == 0:
            return NOUGHT
        found = times(found, lowest(cards[at], sum(cards)))
        state = taken(state, at)
    return found


def tail(wheel, barred_rows, judge, number):
    """The chance that of the causes at least so many go to the judge."""
    judges = [other for other, _ in wheel]
    if judge not in judges:
        raise NotThere("the judge is not on the wheel")
    for barred in barred_rows:
        if all(other in barred for other in judges):
            raise Refused("a cause cannot be dealt")
    at = judges.index(judge)
    # The ways to deal to each state are counted as if all of them had the same whole, which grows with each dealing.
    ways = {full_state(wheel): 1}
    whole = 1
    for barred in barred_rows:
        if len(ways) > MOST_STATES:
            raise TooMuch("too many states")
        ways, scale = dealt_ways(wheel, ways, barred)
        whole = whole * scale
    many = len(barred_rows)
    reached = sum([count for state, count in ways.items() if got_by(wheel, state, many, at) >= number])
    return lowest(reached, whole)


def dealt_ways(wheel, ways, barred):
    """The states behind one more dealing with their ways, and by how much the whole has grown."""
    filled = [(ready(wheel, state, barred), count) for state, count in ways.items()]
    scale = 1
    for (_, cards), _ in filled:
        scale = lcm(scale, sum(cards))
    found = {}
    for (state, cards), count in filled:
        share = count * (scale // sum(cards))
        for at, many in enumerate(cards):
            if many > 0:
                behind = taken(state, at)
                found[behind] = found.get(behind, 0) + share * many
    return found, scale


def got_by(wheel, state, many, at):
    """How many of so many causes that were dealt went to the judge with this index, if the state is behind them."""
    weights = sum(full_state(wheel))
    filled_and_one = (many + sum(state)) // weights
    return wheel[at][1] * filled_and_one - state[at]
