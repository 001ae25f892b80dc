"""What stands on a day: the rows of a docket, played one behind the other."""

from docketloom.causes import LIVE, Cause, Owed
from docketloom.docket import is_correction
from docketloom.errors import Malformed, NotThere
from docketloom.kinds import COURT, FILING_NEEDS
from docketloom.rulebook import duty_rule, kind_rule
from docketloom.stays import lifted, touches, union_of

STANDS = "stands"


class Scene:
    """What stands behind some rows, at first none."""

    def __init__(self, docket):
        self._docket = docket
        self._day = 0
        self._causes = {}
        # The stays that were begun and are not taken out, by the numbers of the entries that began them.
        self._stays = {}

    def play(self, number, day):
        """Plays an entry as a row of this day, and returns its word."""
        _, _, _, deed = self._docket.entry(number)
        if is_correction(deed):
            raise Malformed("a correction is no row")
        if day < self._day:
            raise Malformed("a row with a later day has been played")
        self._day = day
        if deed[0] == "stay":
            return self._begin_stay(number, day, deed)
        if deed[0] == "lift":
            return self._lift(deed[1], day)
        if deed[0] == "begin":
            return self._begin(deed)
        return self._act(number, day, deed)

    def _begin(self, deed):
        """Begins a cause."""
        _, name, parties = deed
        if name in self._causes:
            return "twice"
        self._causes[name] = Cause(name, parties)
        return STANDS

    def _act(self, number, day, deed):
        """Plays a row by which something is done to a party in a cause, or by it."""
        word = self._missing(deed[1], deed[2])
        if word is not None:
            return word
        cause = self._causes[deed[1]]
        if deed[0] == "file":
            return self._file(cause, number, day, deed)
        if deed[0] == "served":
            return self._serve(cause, day, deed)
        return self._give_leave(cause, day, deed)

    def _missing(self, name, party):
        """The word of a row of a party in a cause, if for this cause or this party it is idle; otherwise None."""
        cause = self._causes.get(name)
        if cause is None:
            return "absent"
        if cause.is_over:
            return "ended"
        return None if party in cause.roles else "stranger"

    def _file(self, cause, number, day, deed):
        """Plays a filing."""
        _, _, party, kind = deed
        word = self._filing_word(cause, party, kind, day)
        if word != STANDS:
            return word
        _, _, _, does, opens, _, ends = kind_rule(self._docket.book, kind)
        self._do(cause, number, day, party, does)
        self._open(cause, number, day, party, opens)
        cause.filed.append((number, kind))
        if ends:
            self._end(cause, number, day)
        return STANDS

    def _filing_word(self, cause, party, kind, day):
        """The word of a filing in a cause that is not ended, by a party of it."""
        _, roles, needs, _, _, _, _ = kind_rule(self._docket.book, kind)
        if cause.roles[party] not in roles:
            return "role"
        if self._is_barred(cause, kind):
            return "barred"
        return STANDS if all(self._holds(cause, need, day) for need in needs) else "needs"

    def would_stand(self, cause, party, kind, day):
        """True if a filing would stand as the next row, on a day that is not before that of the last row."""
        if self._missing(cause, party) is not None:
            return False
        return self._filing_word(self._causes[cause], party, kind, day) == STANDS

    def _is_barred(self, cause, kind):
        """True if a filing that stands in the cause bars the kind."""
        return any(kind in kind_rule(self._docket.book, other)[5] for _, other in cause.filed)

    def _holds(self, cause, need, day):
        """True if a need holds in the cause on the day."""
        word, name = need
        if word in FILING_NEEDS:
            return cause.has_filing(name) == (word == "filed")
        states = ("done", "late") if word == "done" else (word,)
        return any(self._state(owed, day) in states for owed in cause.owed if owed.duty == name)

    def _do(self, cause, number, day, party, does):
        """Does the duties of a party that have one of the names."""
        for owed in cause.owed:
            if owed.party == party and owed.duty in does:
                state = self._state(owed, day)
                if state in LIVE:
                    self._close(owed, "late" if state == "overdue" else "done", number)

    def _open(self, cause, number, day, filer, opens):
        """Opens duties for the parties of roles, and for the party that files."""
        many = len(cause.owed)
        for duty, role in opens:
            for party in [filer] if role == "" else cause.parties_of(role):
                if self._find(cause, party, duty, day, LIVE) is None:
                    _, word, grace = duty_rule(self._docket.book, duty)
                    owed = Owed(number, party, duty, word, grace)
                    if party in (filer, COURT):
                        self._start(cause, owed, day)
                    cause.owed.append(owed)
        # The duties of one row are told by the party and the duty.
        cause.owed[many:] = sorted(cause.owed[many:], key=lambda owed: (owed.party, owed.duty))

    def _end(self, cause, number, day):
        """Ends a cause."""
        cause.is_over = True
        for owed in cause.owed:
            if self._state(owed, day) in LIVE:
                self._close(owed, "void", number)

    def _serve(self, cause, day, deed):
        """Plays the service of what opened a duty."""
        owed = self._find(cause, deed[2], deed[3], day, ("waiting",))
        if owed is None:
            return "noduty"
        self._start(cause, owed, day)
        return STANDS

    def _give_leave(self, cause, day, deed):
        """Plays leave to do a duty up to a day."""
        owed = self._find(cause, deed[2], deed[3], day, ("open", "overdue"))
        if owed is None:
            return "noduty"
        due = self._due(owed)
        if due is None or deed[4] <= due:
            return "short"
        owed.give_leave(deed[4])
        return STANDS

    def _begin_stay(self, number, day, deed):
        """Begins a stay, under which the duties come that are open now."""
        _, scope, name, mode = deed
        stay = (scope, name, day, None, mode)
        for cause in self._causes.values():
            for owed in cause.owed:
                if touches(stay, cause.name, owed.party) and self._state(owed, day) == "open":
                    owed.stay(number)
        self._stays[number] = stay
        return STANDS

    def _lift(self, number, day):
        """Lifts the stay that the entry with this number began."""
        stay = self._stays.get(number)
        if stay is None or stay[3] is not None:
            return "nostay"
        kept = lifted((stay,), 0, day)
        if len(kept) == 0:
            del self._stays[number]
        else:
            self._stays[number] = kept[0]
        for cause in self._causes.values():
            for owed in cause.owed:
                if number in owed.stayed_by:
                    owed.is_reckoned = False
        return STANDS

    def _start(self, cause, owed, day):
        """Starts a duty, under the stays that are there now."""
        # A stay that has been lifted by now has no day from the start on, and would change nothing.
        found = [number for number, stay in self._stays.items()
                 if stay[3] is None and touches(stay, cause.name, owed.party)]
        owed.begin(day, found)

    def _close(self, owed, word, number):
        """Makes a duty, whose state was just asked for, done, late or void; its last day stays what it is now."""
        owed.closed = word
        owed.closed_by = number

    def _find(self, cause, party, duty, day, states):
        """The duty of a party, with a name, that stands in one of the states; or None."""
        for owed in cause.owed:
            if owed.party == party and owed.duty == duty and self._state(owed, day) in states:
                return owed
        return None

    def _state(self, owed, day):
        """How a duty stands on a day."""
        if owed.closed is not None:
            return owed.closed
        if owed.start is None:
            return "waiting"
        due = self._due(owed)
        if due is None or day <= due:
            return "open"
        if owed.grace is None or day <= due + owed.grace:
            return "overdue"
        return "lapsed"

    def _due(self, owed):
        """The last day of a duty that has started, or None."""
        if not owed.is_reckoned:
            owed.due = self._reckoned(owed)
            owed.is_reckoned = True
        return owed.due

    def _reckoned(self, owed):
        """The last day of a duty that has started, or None, reckoned from its stays and its leave."""
        stays = [self._stays[number] for number in owed.stayed_by if number in self._stays]
        try:
            last = self._docket.almanac.last(union_of(stays), owed.start, owed.word)
        except NotThere:
            return None
        if last is None or owed.leave is None:
            return last
        return max(last, owed.leave)

    def causes(self):
        """The ascending list of the causes that have begun."""
        return sorted(self._causes)

    def _begun(self, name):
        """The cause with this name. Raises NotThere if it has not begun."""
        if name not in self._causes:
            raise NotThere("the cause has not begun")
        return self._causes[name]

    def is_ended(self, cause):
        """True if the cause is ended."""
        return self._begun(cause).is_over

    def filings(self, cause):
        """The list of the pairs (number, kind) of the filings that stand in the cause, in order."""
        return list(self._begun(cause).filed)

    def duties(self, cause, d):
        """The list of the duty rows of the cause, as they stand on the day d."""
        return [self._row(owed, d) for owed in self._begun(cause).owed]

    def _row(self, owed, day):
        """The duty row of a duty."""
        state = self._state(owed, day)
        return (owed.opened, owed.party, owed.duty, state, owed.start, owed.due, owed.closed_by)

    def stays(self):
        """The list of the stays, in the order in which they were begun, without those that are taken out."""
        return list(self._stays.values())


def played(docket, d, k):
    """The scene behind the rows known on k whose days are not later than d, and these rows' words."""
    told = []
    stage = Scene(docket)
    for number, day in docket.rows(k):
        if day <= d:
            told.append((number, stage.play(number, day)))
    return stage, told


def scene(docket, d, k):
    """The scene behind the rows known on k whose days are not later than d."""
    stage, _ = played(docket, d, k)
    return stage


def words(docket, d, k):
    """The list of the pairs (number, word) of the rows known on k whose days are not later than d."""
    _, told = played(docket, d, k)
    return told
