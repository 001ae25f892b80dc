"""The search through all states of a promise, and for those that are lost."""

from docketloom.bounds import many_moves, start_state
from docketloom.errors import TooMuch
from docketloom.hearers import packed
from docketloom.tracks import Track

MOST_STATES = 4000
MOST_MOVES = 4000


class Walk:
    """The numbers of the states that can be reached, and those of the lost ones with their ranks."""

    def __init__(self, promise):
        # The start has the most moves.
        if many_moves(promise, start_state(promise)) > MOST_MOVES:
            raise TooMuch("too many moves")
        self.track = Track(promise)
        self.numbers = [0]
        self._find()
        self.lost = {state: 0 for state in self.numbers if self._falls_at_once(state)}
        if len(self.lost) > 0:
            self._spread()

    def _find(self):
        """Finds all states."""
        known = {0: True}
        at = 0
        while at < len(self.numbers):
            found = self._followers(self.numbers[at])
            for behind in found:
                if behind not in known:
                    known[behind] = True
                    self.numbers.append(behind)
            if len(self.numbers) > MOST_STATES:
                raise TooMuch("too many states")
            at += 1

    def _followers(self, state):
        """The list of the states that can follow."""
        track = self.track
        places = track.places(state)
        found = []
        # Without a past of the absences, what follows when judges are absent can follow without absences, too.
        most = 0 if track.away.window == 1 else track.most_absent(places)
        for many in range(most + 1):
            ever = track.hearers.ever(many)
            rows = [(track.away.step(places[-1], many, many), 0)]
            for lane, place in zip(track.lanes, places):
                rows = [(code + part, told + heard) for code, told in rows for part, heard in lane.ways(place)
                        if told + heard in ever]
            found.extend([code for code, _ in rows])
        return found

    def _falls_at_once(self, state):
        """True if there is a move to which all lawful dealings fall."""
        track = self.track
        places = track.places(state)
        due = packed(track.must_hear(places, [lane.room(place) for lane, place in zip(track.lanes, places)]))
        absents = track.hearers.worst(track.most_absent(places))
        return any([due not in track.hearers.can_hear(absent) for absent in absents])

    def _spread(self):
        """Finds the ranks from 1 on: a state is lost when all that follows one of its moves is lost."""
        owners = []
        left = []
        before = {}
        for state in [state for state in self.numbers if state not in self.lost]:
            for row in self._rows_of(state):
                for behind in row:
                    before.setdefault(behind, []).append(len(owners))
                owners.append(state)
                left.append(len(row))
        level = list(self.lost)
        rank = 0
        while len(level) > 0:
            rank += 1
            found = []
            for number in [number for state in level for number in before.get(state, [])]:
                left[number] -= 1
                if left[number] == 0 and owners[number] not in self.lost:
                    self.lost[owners[number]] = rank
                    found.append(owners[number])
            level = found

    def _rows_of(self, state):
        """For each move that need be looked at, the list of the best states that can be made to follow it."""
        track = self.track
        places = track.places(state)
        filings = [((), (), ())]
        for lane, place in zip(track.lanes, places):
            filings = [(filed + (new,), due + (least,), waiting + (most,)) for filed, due, waiting in filings
                       for new, least, most in lane.numbers_filed(place)]
        most = track.most_absent(places)
        # Without a past of the absences, the most absent judges are the worst.
        least = most if track.away.window == 1 else 0
        absents = [absent for many in range(least, most + 1) for absent in track.hearers.worst(many)]
        return [track.best(places, filed, absent, (due, waiting)) for filed, due, waiting in filings
                for absent in absents]
