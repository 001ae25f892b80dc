"""Rolls: which judge hears which cause on which court day."""

from docketloom.books import deal_by
from docketloom.errors import Malformed
from docketloom.names import is_ascending, is_name, is_number, is_tuple
from docketloom.pledges import absent_on, check_suits, counted, course_of, promise_of


class Hearings:
    """The causes that are counted on court days, and the judges who are there for them."""

    def __init__(self, pledge, bench, filings, days):
        check_suits(pledge, bench)
        self.kinds = [row[0] for row in pledge[0]]
        self.terms = {row[0]: row[1] for row in pledge[0]}
        self.rights = {judge[0]: judge[1] for judge in bench[0]}
        self.kind_of = {cause: kind for cause, kind, _ in filings}
        self.counted = {cause: number for number, cause in counted(filings, days)}
        self.numbers = {day: number for number, day in enumerate(days)}
        self._bench = bench
        self._there = {}

    def there(self, day):
        """The names of the judges of the bench, in order, with True for those who are there on the day."""
        if day not in self._there:
            absent = absent_on(self._bench, day)
            self._there[day] = {judge[0]: at not in absent for at, judge in enumerate(self._bench[0])}
        return self._there[day]

    def may_hear(self, day, judge, kind):
        """True if the judge is there on the day, and may hear causes of the kind."""
        return self.there(day)[judge] and kind in self.rights[judge]


def is_lawful(hearings, day, waiting, dealing):
    """True if the value dealing, of any kind, is lawful for what waits on the day."""
    judges = list(hearings.rights)
    if not is_tuple(dealing, len(judges), len(judges)):
        return False
    if not all([is_number(kind, -1, len(hearings.kinds) - 1) for kind in dealing]):
        return False
    pairs = [(judge, hearings.kinds[kind]) for judge, kind in zip(judges, dealing) if kind >= 0]
    if not all([hearings.may_hear(day, judge, kind) for judge, kind in pairs]):
        return False
    return all([dealing.count(at) <= len(waiting[kind]) for at, kind in enumerate(hearings.kinds)])


def roll_by(pledge, bench, filings, days, dealings):
    """The roll by dealings."""
    hearings = Hearings(pledge, bench, filings, days)
    if len(dealings) != len(days):
        raise Malformed("not one dealing for each day")
    arriving = [[] for _ in days]
    for number, cause in counted(filings, days):
        arriving[number].append(cause)
    waiting = {kind: [] for kind in hearings.kinds}
    roll = []
    for day, causes, dealing in zip(days, arriving, dealings):
        for cause in causes:
            waiting[hearings.kind_of[cause]].append(cause)
        if not is_lawful(hearings, day, waiting, dealing):
            raise Malformed("no lawful dealing")
        for judge, kind in zip(list(hearings.rights), dealing):
            if kind >= 0:
                roll.append((day, judge, waiting[hearings.kinds[kind]].pop(0)))
    return roll


def is_row(hearings, value):
    """True if the value, of any kind, can be a row of a sound roll by itself."""
    if not is_tuple(value, 3, 3):
        return False
    day, judge, cause = value
    if type(day) is not int or day not in hearings.numbers or not is_name(judge) or judge not in hearings.rights:
        return False
    if not is_name(cause) or cause not in hearings.counted:
        return False
    return hearings.may_hear(day, judge, hearings.kind_of[cause]) and hearings.counted[cause] <= hearings.numbers[day]


def is_sound_for(hearings, roll):
    """True if the value roll, of any kind, is a sound roll of the hearings."""
    if type(roll) is not list or not all([is_row(hearings, row) for row in roll]):
        return False
    if not is_ascending([(day, judge) for day, judge, _ in roll]):
        return False
    return is_ascending(sorted([cause for _, _, cause in roll]))


def is_sound(pledge, bench, filings, days, roll):
    """True if the value roll, of any kind, is a sound roll."""
    return is_sound_for(Hearings(pledge, bench, filings, days), roll)


def forfeits(pledge, bench, filings, days, roll):
    """The list of the forfeits of a sound roll."""
    hearings = Hearings(pledge, bench, filings, days)
    if not is_sound_for(hearings, roll):
        raise Malformed("no sound roll")
    heard = {cause: hearings.numbers[day] for day, _, cause in roll}
    found = []
    for cause, number in hearings.counted.items():
        last = number + hearings.terms[hearings.kind_of[cause]]
        if last < len(days) and heard.get(cause, len(days)) > last:
            found.append(cause)
    return sorted(found)


def dealt_roll(pledge, bench, filings, days, book):
    """The roll by the dealings of a book that closes."""
    check_suits(pledge, bench)
    course = course_of(pledge, bench, filings, days)
    return roll_by(pledge, bench, filings, days, deal_by(promise_of(pledge, bench), book, course))
