"""What would do for a promise: the fewest judges, the shortest term."""

from docketloom.bounds import Promise
from docketloom.demand import check_one_bench, least_lack
from docketloom.errors import NotThere
from docketloom.games import can_keep
from docketloom.names import is_number

ENOUGH_JUDGES = 40


def fewest_judges(promise):
    """The least number of judges with whom the demand is never greater than the supply."""
    check_one_bench(promise)
    for judges in range(1, ENOUGH_JUDGES):
        if least_lack(judges, promise.kinds, promise.absences) is None:
            return judges
    return ENOUGH_JUDGES


def is_kept(promise):
    """True if the promise can be kept: by demand for one bench, otherwise by its game."""
    if all([len(rights) == promise.judges for rights, _, _, _ in promise.kinds]):
        return least_lack(promise.judges, promise.kinds, promise.absences) is None
    return can_keep(promise)


def with_term(promise, number, term):
    """The promise with another term of a kind."""
    kinds = list(promise.kinds)
    rights, _, count, window = kinds[number]
    kinds[number] = (rights, term, count, window)
    return Promise(promise.judges, kinds, promise.absences)


def shortest_term(promise, kind):
    """The least term of the kind with which the promise can still be kept, or None if it cannot be kept."""
    if not is_number(kind, 0, len(promise.kinds) - 1):
        raise NotThere("no such kind")
    shortest = None
    for term in reversed(range(promise.kinds[kind][1] + 1)):
        if not is_kept(with_term(promise, kind, term)):
            break
        shortest = term
    return shortest
