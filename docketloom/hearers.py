"""What the judges of a promise who are there can hear together on a day."""

from docketloom.bounds import absent_sets
from docketloom.courses import dealings_of
from docketloom.lanes import HEARD_BITS

# No day hears more than the judges of a promise, so this many are due in vain.
IN_VAIN = 5


def packed(heard):
    """The numbers of the heard causes of all kinds as one number."""
    return sum([min(many, IN_VAIN) << (HEARD_BITS * at) for at, many in enumerate(heard)])


def is_none_more(one, other):
    """True if no number of the one is greater than that of the other."""
    return all([here <= there for here, there in zip(one, other)])


class Hearers:
    """For each tuple of absent judges: which numbers of causes of the kinds the others can hear together."""

    def __init__(self, promise):
        self._promise = promise
        self._absents = absent_sets(promise.judges, promise.absences[0])
        self._lawful = {}
        self._can = {}
        self._worst = {}
        self._ever = {}
        self._choices = {}
        self._most = {}

    def lawful(self, absent):
        """A dict with what is heard by each dealing that is lawful if enough causes wait, ascending by the dealings."""
        if absent not in self._lawful:
            many = len(self._promise.kinds)
            found = dealings_of(self._promise, absent, [self._promise.judges] * many)
            self._lawful[absent] = {row: tuple([row.count(kind) for kind in range(many)]) for row in found}
        return self._lawful[absent]

    def can_hear(self, absent):
        """A dict of what can be heard, packed."""
        if absent not in self._can:
            self._can[absent] = {packed(heard): True for heard in self.lawful(absent).values()}
        return self._can[absent]

    def _leaves_no_more(self, one, other):
        """True if what can be heard without the one can be heard without the other, too."""
        can = self.can_hear(other)
        return all([heard in can for heard in self.can_hear(one)])

    def worst(self, many):
        """The tuples of so many absent judges, but for those beside whom another one leaves no more to be heard."""
        if many not in self._worst:
            found = []
            for absent in self._absents:
                if len(absent) == many and not any([self._leaves_no_more(other, absent) for other in found]):
                    found = [other for other in found if not self._leaves_no_more(absent, other)] + [absent]
            self._worst[many] = found
        return self._worst[many]

    def ever(self, many):
        """A dict of what can be heard, packed, when some so many are absent."""
        if many not in self._ever:
            absents = [absent for absent in self._absents if len(absent) == many]
            self._ever[many] = {heard: True for absent in absents for heard in self.can_hear(absent)}
        return self._ever[many]

    def choices(self, absent, waiting):
        """The pairs (dealing, heard), ascending, the least dealing for all that is heard, if so many causes wait."""
        key = (absent, waiting)
        if key not in self._choices:
            first = {}
            for dealing, heard in self.lawful(absent).items():
                if heard not in first and is_none_more(heard, waiting):
                    first[heard] = dealing
            self._choices[key] = [(dealing, heard) for heard, dealing in first.items()]
        return self._choices[key]

    def most_heard(self, absent, waiting):
        """What can be heard, but for what is less than something else, if so many causes of each kind wait."""
        key = (absent, waiting)
        if key not in self._most:
            heards = [heard for _, heard in self.choices(absent, waiting)]
            # Whatever can be heard together, and is not less than something else, comes to the same sum.
            most = max([sum(heard) for heard in heards])
            self._most[key] = [heard for heard in heards if sum(heard) == most]
        return self._most[key]
