"""The papers of filings: what an office was told of them, and when they are served."""

from docketloom.errors import TooMuch
from docketloom.service import MOST_EVENTS, Serving


class Paper:
    """The paper of one filing for one party."""

    def __init__(self, serving, party):
        self._serving = serving
        self._party = party
        self._noted = []
        self._served = None

    def tell(self, event):
        """Notes an event."""
        if len(self._noted) >= MOST_EVENTS:
            raise TooMuch("too many events of a paper")
        self._noted.append(event)
        self._work_out()

    def forget(self):
        """Takes the last event back."""
        self._noted.pop()
        self._work_out()

    def _work_out(self):
        """Finds the day on which the paper is served; for this the order of the events of a day does not matter."""
        self._served = self._serving.served_on(self._party, tuple(self._noted))

    def served(self):
        """The day on which the paper is served by all events, or None."""
        return self._served

    def events(self, k):
        """The events that were told up to the day k, in their order."""
        return tuple(sorted([event for event in self._noted if event[0] <= k]))


class Papers:
    """All papers of an office."""

    def __init__(self, regimes, manner, powers):
        self._regimes = regimes
        self._manner = manner
        self._powers = powers
        self._servings = {}
        self._papers = {}

    def serving(self, entered):
        """Service in the calendar of the regime that holds on the day on which a filing was entered."""
        first, regime = [pair for pair in self._regimes[1] if pair[0] <= entered][-1]
        if first not in self._servings:
            self._servings[first] = Serving(regime[0], self._manner, self._powers)
        return self._servings[first]

    def paper(self, number, entered, party):
        """The paper of the filing with the number, which was entered on this day, for the party."""
        key = (number, party)
        if key not in self._papers:
            self._papers[key] = Paper(self.serving(entered), party)
        return self._papers[key]

    def events(self, number, party, k):
        """The events of a paper that were told up to the day k."""
        paper = self._papers.get((number, party))
        return () if paper is None else paper.events(k)

    def served(self, k):
        """The ascending list of the triples (number, party, day) of the papers that are served on days up to k."""
        days = [(number, party, paper.served()) for (number, party), paper in self._papers.items()]
        return sorted([row for row in days if row[2] is not None and row[2] <= k])
