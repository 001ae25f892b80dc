"""Promises of one bench: the demand and the supply of days that follow each other."""

from math import lcm

from docketloom.errors import NotThere, OutOfRange, Refused
from docketloom.names import is_number

MOST_DAYS = 100000
LONGEST_BURST = 400


def check_one_bench(promise):
    """Raises Refused if the promise is not of one bench."""
    if not all([len(kind[0]) == promise.judges for kind in promise.kinds]):
        raise Refused("not of one bench")


def check_days(number, most):
    """Raises OutOfRange if the number of days is not from 1 to the most."""
    if not is_number(number, 1, most):
        raise OutOfRange("no such number of days")


def filed_within(kind, days):
    """The most causes of the kind that are filed in so many days, from 1 on."""
    _, _, count, window = kind
    return count * ((days + window - 1) // window)


def absent_within(judges, bound, days):
    """The most absences of so many judges in so many days."""
    count, window = bound
    least = min(count, judges * window)
    return least * (days // window) + min(least, judges * (days % window))


def demanded(kinds, days):
    """The demand of so many days."""
    return sum([filed_within(kind, days - kind[1]) for kind in kinds if kind[1] < days])


def supplied(judges, bound, days):
    """The supply of so many days."""
    return judges * days - absent_within(judges, bound, days)


def period_of(kinds, bound):
    """The least common multiple of all windows."""
    found = bound[1]
    for kind in kinds:
        found = lcm(found, kind[3])
    return found


def least_lack(judges, kinds, bound):
    """The least number of days for which so many judges supply less than is demanded, or None."""
    behind = period_of(kinds, bound)
    longest = max([kind[1] for kind in kinds])
    gaps = []
    for days in range(1, longest + behind + 1):
        gap = supplied(judges, bound, days) - demanded(kinds, days)
        if gap < 0:
            return days
        gaps.append((days, gap))
    # Behind the longest term, what is missing grows by as much in each period.
    more = demanded(kinds, longest + 2 * behind) - demanded(kinds, longest + behind)
    growing = more - supplied(judges, bound, behind)
    if growing <= 0:
        return None
    return min([days + behind * (gap // growing + 1) for days, gap in gaps if days > longest])


def most_filed(promise, kind, n):
    """The most causes of the kind that are filed in n days."""
    check_days(n, MOST_DAYS)
    if not is_number(kind, 0, len(promise.kinds) - 1):
        raise NotThere("no such kind")
    check_one_bench(promise)
    return filed_within(promise.kinds[kind], n)


def most_absent(promise, n):
    """The most absences in n days."""
    check_days(n, MOST_DAYS)
    check_one_bench(promise)
    return absent_within(promise.judges, promise.absences, n)


def demand(promise, n):
    """The demand of n days."""
    check_days(n, MOST_DAYS)
    check_one_bench(promise)
    return demanded(promise.kinds, n)


def supply(promise, n):
    """The supply of n days."""
    check_days(n, MOST_DAYS)
    check_one_bench(promise)
    return supplied(promise.judges, promise.absences, n)


def period(promise):
    """The least common multiple of all windows."""
    check_one_bench(promise)
    return period_of(promise.kinds, promise.absences)


def first_lack(promise):
    """The least n for which the demand is greater than the supply, or None."""
    check_one_bench(promise)
    return least_lack(promise.judges, promise.kinds, promise.absences)


def burst(promise, n):
    """The burst of n days."""
    check_days(n, LONGEST_BURST)
    check_one_bench(promise)
    count, window = promise.absences
    absent = []
    for day in range(n):
        absent.append(min(promise.judges, count - sum(absent[max(0, day - window + 1):])))
    return [(tuple([count_on(kind, day, n) for kind in promise.kinds]), tuple(range(absent[day]))) for day in range(n)]


def count_on(kind, day, days):
    """How many causes of the kind the burst of so many days has on the day."""
    _, term, count, window = kind
    return count if day % window == 0 and day + term < days else 0
