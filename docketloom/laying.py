"""Loose courses laid as deeds with days."""

from docketloom.almanac import Almanac
from docketloom.days import LAST_DAY
from docketloom.errors import NotThere, OutOfRange
from docketloom.kinds import COURT
from docketloom.rulebook import roles_of

CAUSE = "trial"


class Laying:
    """The deeds of a loose course, laid move by move."""

    def __init__(self, book, regimes, loose):
        parties = tuple([(role, role) for role in roles_of(book) if role != COURT])
        self.deeds = [(0, ("begin", CAUSE, parties))]
        self._loose = loose
        self._almanac = Almanac(regimes)
        self._day = 0
        # The last days, or None, of the duties that have started, by role and duty.
        self._lasts = {}

    def lay(self, state, move):
        """Lays a move in a loose state."""
        word, role, name = move
        if word == "pass":
            self._pass(state, role, name)
        elif word == "leave":
            self._give_leave(role, name, self._day)
        elif word == "serve":
            self._tell(("served", CAUSE, role, name))
            self._start(role, name)
        else:
            self._tell(("file", CAUSE, role, name))
            for other, duty in self._loose.opened_by(state[1], role, name):
                if other in (role, COURT):
                    self._start(other, duty)

    def _tell(self, deed):
        """Adds a deed of the current day."""
        self.deeds.append((self._day, deed))

    def _start(self, role, duty):
        """Notes the last day of a duty that starts on the current day."""
        try:
            self._lasts[(role, duty)] = self._almanac.last((), self._day, self._loose.words[duty])
        except NotThere:
            self._lasts[(role, duty)] = None

    def _give_leave(self, role, duty, day):
        """Gives leave up to a day that is behind the last day."""
        self._tell(("leave", CAUSE, role, duty, day))
        self._lasts[(role, duty)] = day

    def _end(self, row):
        """The last day on which an open or overdue duty stands as it does; None if there is none."""
        role, duty, live, _, _ = row
        last = self._lasts[(role, duty)]
        if live == "open":
            return last
        grace = self._loose.graces[duty]
        return None if grace is None else last + grace

    def _pass(self, state, role, name):
        """Lets days pass until a duty is overdue or lapsed, and keeps all others as they are."""
        passing = [row for row in state[1] if row[0] == role and row[1] == name]
        end = self._end(passing[0])
        if end is None or end + 1 > LAST_DAY:
            raise OutOfRange("the course cannot be laid")
        day = end + 1
        for row in state[1]:
            if row[2] in ("open", "overdue") and row != passing[0]:
                stop = self._end(row)
                if stop is not None and stop < day:
                    self._give_leave(row[0], row[1], day if row[2] == "open" else day - 1)
        self._day = day
