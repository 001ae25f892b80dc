"""Notices: duties that come to their last days, duties that lie still, and surprises."""

from docketloom.asof import news
from docketloom.errors import OutOfRange
from docketloom.names import is_number
from docketloom.standing import scene

MOST_DAYS = 1000


def known_duties(office):
    """The list of the pairs (cause, duty row) of all duties today, as known today."""
    today = office.today()
    stage = scene(office.docket(), today, today)
    return [(cause, row) for cause in stage.causes() for row in stage.duties(cause, today)]


def notices(office, n):
    """The notices for n days."""
    if not is_number(n, 0, MOST_DAYS):
        raise OutOfRange("no such number of days")
    latest = office.today() + n
    return sorted([(row[5], cause, row[1], row[2], row[0]) for cause, row in known_duties(office)
                   if row[3] == "open" and row[5] is not None and row[5] <= latest])


def lying_still(office):
    """The duties that are open and have no last day, or wait."""
    return sorted([(cause, row[1], row[2], row[0]) for cause, row in known_duties(office)
                   if row[3] == "waiting" or (row[3] == "open" and row[5] is None)])


def surprises(office, k):
    """The news of the day k from the day before to k."""
    office.check_known(k)
    if k == 0:
        raise OutOfRange("no day is before this one")
    return news(office.docket(), k, k - 1, k)
