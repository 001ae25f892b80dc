"""Terms with a word, by regimes, under stays; what has been worked out of the calendars is kept."""

from docketloom.days import runs_of
from docketloom.errors import NotThere, OutOfRange
from docketloom.openings import Openings
from docketloom.reckoning import last_of, rolled

LONGEST_SPAN = 100


def check_span(low, high):
    """Raises OutOfRange if low is greater than high, or less by more than 100."""
    if not 0 <= high - low <= LONGEST_SPAN:
        raise OutOfRange("no such span of days")


def is_up_to(day, last):
    """True if a term with this last day (None: it stands still) still runs on the day."""
    return last is None or day <= last


def later_of(one, other):
    """The greater one of two last days, where None is greater than all days."""
    return None if one is None or other is None else max(one, other)


class Almanac:
    """The regimes, made ready for reckoning. Stays come as their union, and () is that of none."""

    def __init__(self, regimes):
        self._way = regimes[0]
        self._firsts = [first for first, _ in regimes[1]]
        self._openings = [Openings(regime[0]) for _, regime in regimes[1]]
        self._rules = [{word: rule for word, rule in regime[1]} for _, regime in regimes[1]]
        # The last days that were told: a docket asks for the same ones again and again.
        self._lasts = {}

    def _holding(self, day):
        """The index of the regime that holds on a day."""
        return max([at for at, first in enumerate(self._firsts) if first <= day])

    def steps(self, stayed, start, word):
        """The history of a term: pairs of a first day and the last day (None: it stands still) from this step on."""
        at = self._holding(start)
        rule = self._rules[at].get(word)
        if rule is None:
            raise NotThere("no rule with this word")
        last = last_of(self._openings[at], rule, stayed, start)
        told = [(self._firsts[at], last)]
        if self._way == "old":
            return told
        for later in range(at + 1, len(self._firsts)):
            rule = self._rules[later].get(word)
            if rule is not None and is_up_to(self._firsts[later], last):
                last = self._taken_over(later, rule, stayed, start, last)
                told.append((self._firsts[later], last))
        return told

    def _taken_over(self, later, rule, stayed, start, last):
        """The last day of a term that still runs when a later regime begins."""
        openings = self._openings[later]
        found = last_of(openings, rule, stayed, start)
        if self._way == "kind":
            return later_of(found, last)
        first = self._firsts[later]
        if is_up_to(first, found):
            return found
        return rolled(openings, rule[3], stayed, first, first)

    def last(self, stayed, start, word):
        """The last day of a term, or None if it stands still; raises NotThere."""
        key = (stayed, start, word)
        if key not in self._lasts:
            self._lasts[key] = self.steps(stayed, start, word)[-1][1]
        return self._lasts[key]

    def is_in_time(self, stayed, start, word, day):
        """True if an act on the day is in time; raises NotThere."""
        last = self.last(stayed, start, word)
        return start <= day and is_up_to(day, last)

    def starts_in_time(self, stayed, word, day, low):
        """The runs of the starts, from low up to the day, for which an act on the day is in time."""
        return runs_of([start for start in range(low, day + 1) if self._is_surely_in_time(stayed, start, word, day)])

    def _is_surely_in_time(self, stayed, start, word, day):
        """True if the term has a rule and a last day, and an act on the day is in time."""
        try:
            return self.is_in_time(stayed, start, word, day)
        except NotThere:
            return False
