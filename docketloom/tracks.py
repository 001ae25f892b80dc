"""The states of a promise as numbers, and the steps between them."""

from docketloom.hearers import Hearers, is_none_more
from docketloom.lanes import PLACE_BITS, Lane

PLACES = 1048576


class Track:
    """A promise with one lane for each kind and one for the absences. The start is the number 0."""

    def __init__(self, promise):
        self.hearers = Hearers(promise)
        self.lanes = [Lane(at, len(kind[0]), kind[1], (kind[2], kind[3])) for at, kind in enumerate(promise.kinds)]
        # The absent judges of a day are like causes that are filed and heard on it.
        self.away = Lane(len(self.lanes), promise.judges, 0, promise.absences)
        self._judges = promise.judges

    def number_of(self, state):
        """The number of a state."""
        waiting, pasts, past = state
        parts = [lane.part(row, told) for lane, row, told in zip(self.lanes, waiting, pasts)]
        return sum(parts) + self.away.part((), past)

    def places(self, number):
        """The places of a state in all lanes, that of the absences last."""
        return [(number >> (PLACE_BITS * at)) % PLACES for at in range(len(self.lanes) + 1)]

    def told(self, number):
        """The state with the number."""
        places = self.places(number)
        pairs = [lane.met[place] for lane, place in zip(self.lanes, places)]
        return (tuple([row for row, _ in pairs]), tuple([past for _, past in pairs]), self.away.met[places[-1]][1])

    def most_absent(self, places):
        """The most judges who can be absent."""
        return min(self._judges, self.away.room(places[-1]))

    def must_hear(self, places, filed):
        """How many causes of each kind have to be heard, lest the day falls."""
        return tuple([lane.must_hear(place, many) for lane, place, many in zip(self.lanes, places, filed)])

    def can_be_heard(self, places, filed):
        """How many causes of each kind can be heard, if all judges are there."""
        return tuple([lane.can_be_heard(place, many) for lane, place, many in zip(self.lanes, places, filed)])

    def behind(self, places, filed, absent, heard):
        """The number of the next state behind a move and what is heard."""
        many = len(absent)
        parts = [lane.step(place, new, over) for lane, place, new, over in zip(self.lanes, places, filed, heard)]
        return sum(parts) + self.away.step(places[-1], many, many)

    def best(self, places, filed, absent, bounds):
        """The next states behind a move when as much as can be is heard, and the day does not fall."""
        due, waiting = bounds
        return [self.behind(places, filed, absent, heard) for heard in self.hearers.most_heard(absent, waiting)
                if is_none_more(due, heard)]
