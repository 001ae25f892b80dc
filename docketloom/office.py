"""The office: it does deeds, and tells what is known on any day up to today."""

from docketloom.acting import act
from docketloom.admitting import check_days, check_named
from docketloom.charter import is_charter, is_office_deed
from docketloom.days import check_day
from docketloom.errors import Malformed, NotThere, OutOfRange
from docketloom.fees import fee_due
from docketloom.registry import Registry
from docketloom.shifting import order, plain


class Office:
    """The office of a court, by its charter."""

    def __init__(self, charter):
        if not is_charter(charter):
            raise Malformed("no charter")
        self.charter = charter
        self._log = []
        self._registry = Registry(charter)

    def do(self, deed):
        """Does a deed, and returns the number of its entry, the answer to its move, or None."""
        if not is_office_deed(deed):
            raise Malformed("no deed")
        check_days(self._registry, deed)
        check_named(self._registry, deed)
        today = self._registry.day_now
        answer = act(self._registry, deed)
        self._log.append((today, deed))
        return answer

    def today(self):
        """The day that is today."""
        return self._registry.day_now

    def log(self):
        """The list of the pairs (today, deed) of all deeds that were done."""
        return list(self._log)

    def docket(self):
        """A docket with the same entries."""
        return self._registry.court_docket.twin()

    def judge_for(self, cause):
        """The name of the judge to whom the cause was dealt."""
        return self._registry.record(cause, self._registry.day_now).judge_name

    def dealt_to(self, cause, k):
        """The judge to whom a cause was dealt that was begun by a deed up to the day k."""
        return self._registry.record(cause, k).judge_name

    def check_known(self, k):
        """Raises OutOfRange if k is no day, or later than today."""
        check_day(k)
        if k > self._registry.day_now:
            raise OutOfRange("later than today")

    def served(self, number, party, k):
        """The day on which the paper of the filing for the party is served as known on k, or None."""
        self.check_known(k)
        return self._registry.served(number, party, k)

    def paper(self, number, party, k):
        """The service of a filing, as its calendar, manner and powers tell, and the events for the party up to k."""
        serving = self._registry.papers.serving(self._registry.filing(number, k)[1])
        return serving, self._registry.papers.events(number, party, k)

    def matter(self, cause, k):
        """The matter of the cause as known on k."""
        self.check_known(k)
        return self._registry.matter(cause, k)

    def judgment(self, cause, k):
        """The judgment of the cause as known on k."""
        self.check_known(k)
        return self._registry.judgment(cause, k)

    def order(self, cause, k):
        """The order of costs as known on k."""
        self.check_known(k)
        record = self._registry.record_with_heads(cause, k)
        return order(record.expenses(k), self._registry.judgment(cause, k), self._registry.cost_rule)

    def turn(self, cause, k, m):
        """The turn from k to a later day m."""
        self.check_known(k)
        self.check_known(m)
        if m <= k:
            raise OutOfRange("the second day is not later")
        back = [(creditor, debtor, amount) for debtor, creditor, amount in self.order(cause, k)]
        return plain(self.order(cause, m) + back)

    def fees(self, cause, k):
        """The list of the pairs (number, fee) of the filings that stand in the cause as known on k."""
        self.check_known(k)
        record = self._registry.record(cause, k)
        stage = self._registry.scene_on(k)
        if cause not in stage.causes():
            return []
        days = {number: day for number, day in self._registry.rows(k)}
        begun = days[record.number]
        found = []
        for number, kind in stage.filings(cause):
            try:
                found.append((number, fee_due(self._registry.fee_book, kind, record.worth, begun, days[number])))
            except NotThere:
                continue
        return found

    def hearings(self, day, k):
        """The list of the day as known on k."""
        check_day(day)
        self.check_known(k)
        return self._registry.lists.hearings(day, k)

    def as_of(self, k):
        """The office as of the day k."""
        self.check_known(k)
        office = Office(self.charter)
        for day, deed in self._log:
            if day <= k and not (deed[0] == "pass" and deed[1] > k):
                office.do(deed)
        if office.today() < k:
            office.do(("pass", k))
        return office


def office_of(charter, log):
    """An office that has done the deeds of a log."""
    office = Office(charter)
    for day, deed in log:
        if day != office.today() or type(day) is not int:
            raise Malformed("not the day that is today")
        office.do(deed)
    return office
