"""Loose states and moves of a rule book, and the search through all states that can be reached."""

from docketloom.causes import LIVE
from docketloom.errors import TooMuch
from docketloom.kinds import COURT, FILING_NEEDS
from docketloom.signs import Signs, is_ready

FIRST_STATE = ((), (), False)
MOST_STATES = 2000


def with_duty(duties, role, duty, live, is_done, is_lapsed):
    """The duties of a loose state with another row for one of them."""
    return tuple([(role, duty, live, is_done, is_lapsed) if row[0] == role and row[1] == duty else row
                  for row in duties])


def does_hold(duties, word, name):
    """True if a need for a duty holds."""
    for _, duty, live, is_done, is_lapsed in duties:
        if duty == name:
            if live == word or (word == "done" and is_done) or (word == "lapsed" and is_lapsed):
                return True
    return False


class Looseness:
    """A rule book, made ready for loose moves. What follows from the filed kinds and from the duties is kept."""

    def __init__(self, book):
        self.graces = {duty: grace for duty, _, grace in book[0]}
        self.words = {duty: word for duty, word, _ in book[0]}
        self._rules = {rule[0]: rule for rule in book[1]}
        self._filings = sorted([(role, rule[0]) for rule in book[1] for role in rule[1]])
        self._allowed = {}
        self._ready = {}
        self._quiet = {}
        self._behind = {}

    def steps(self, state):
        """The list of the pairs (move, state behind it) in a state, ascending by the moves."""
        filed, duties, is_ended = state
        if is_ended:
            return []
        allowed = self._allowed_kinds(filed)
        ready = self._ready_kinds(duties)
        found = []
        for role, kind in self._filings:
            if kind in allowed and kind in ready:
                behind = (allowed[kind], self._behind_filing(duties, role, kind), self._rules[kind][6])
                found.append((("file", role, kind), behind))
        # All other words are behind this one.
        found.extend([(move, (filed, behind, False)) for move, behind in self._quiet_steps(duties)])
        return found

    def moves(self, state):
        """The ascending list of the moves in a state."""
        return [move for move, _ in self.steps(state)]

    def after(self, state, move):
        """The state behind a move in a state; None if it is no move in it."""
        for other, behind in self.steps(state):
            if other == move:
                return behind
        return None

    def _allowed_kinds(self, filed):
        """The kinds that are not barred, and whose needs for filings hold; each with the filed kinds behind it."""
        if filed not in self._allowed:
            barred = [kind for other in filed for kind in self._rules[other][5]]
            found = {}
            for kind, rule in self._rules.items():
                needs = [(name in filed) == (word == "filed") for word, name in rule[2] if word in FILING_NEEDS]
                if kind not in barred and all(needs):
                    found[kind] = filed if kind in filed else tuple(sorted(filed + (kind,)))
            self._allowed[filed] = found
        return self._allowed[filed]

    def _ready_kinds(self, duties):
        """The kinds whose needs for duties hold."""
        if duties not in self._ready:
            found = {}
            for kind, rule in self._rules.items():
                if all([does_hold(duties, word, name) for word, name in rule[2] if word not in FILING_NEEDS]):
                    found[kind] = True
            self._ready[duties] = found
        return self._ready[duties]

    def _quiet_steps(self, duties):
        """The list of the moves that are no filings, with the duties behind them."""
        if duties not in self._quiet:
            self._quiet[duties] = sorted(self._found_quiet_steps(duties))
        return self._quiet[duties]

    def _found_quiet_steps(self, duties):
        """The moves that are no filings, in any order, with the duties behind them."""
        found = []
        for role, duty, live, is_done, is_lapsed in duties:
            grace = self.graces[duty]
            if live in ("waiting", "overdue"):
                word = "serve" if live == "waiting" else "leave"
                found.append(((word, role, duty), with_duty(duties, role, duty, "open", is_done, is_lapsed)))
            if live == "open" and grace != 0:
                found.append((("pass", role, duty), with_duty(duties, role, duty, "overdue", is_done, is_lapsed)))
            elif live == "open" or (live == "overdue" and grace is not None):
                found.append((("pass", role, duty), with_duty(duties, role, duty, "", is_done, True)))
        return found

    def _behind_filing(self, duties, role, kind):
        """The duties behind a filing."""
        key = (duties, role, kind)
        if key not in self._behind:
            self._behind[key] = self._found_behind_filing(duties, role, kind)
        return self._behind[key]

    def _found_behind_filing(self, duties, role, kind):
        """The duties behind a filing: those that it does, then those that it opens, and the end of all."""
        _, _, _, does, opens, _, ends = self._rules[kind]
        if does == () and opens == () and not ends:
            return duties
        rows = {(row[0], row[1]): row for row in duties}
        for duty in does:
            row = rows.get((role, duty))
            if row is not None and row[2] in LIVE:
                rows[(role, duty)] = (role, duty, "", True, row[4])
        for other, duty in self.opened_by(duties, role, kind):
            _, _, _, is_done, is_lapsed = rows.get((other, duty), (other, duty, "", False, False))
            rows[(other, duty)] = (other, duty, "open" if other in (role, COURT) else "waiting", is_done, is_lapsed)
        if ends:
            rows = {key: (row[0], row[1], "", row[3], row[4]) for key, row in rows.items()}
        return tuple(sorted(list(rows.values())))

    def opened_by(self, duties, role, kind):
        """The pairs (role, duty) of the duties that a filing by a role opens."""
        _, _, _, does, opens, _, _ = self._rules[kind]
        held = {(other, duty): True for other, duty, live, _, _ in duties
                if live in LIVE and not (other == role and duty in does)}
        found = []
        for duty, asked in opens:
            key = (role if asked == "" else asked, duty)
            if key not in held:
                held[key] = True
                found.append(key)
        return found


def can_begin(kinds):
    """True if some kind can be filed at first, when none has been filed and no duty was opened."""
    for rule in kinds:
        if all([word == "free" for word, _ in rule[2]]):
            return True
    return False


class Roads:
    """All loose states that can be reached, as numbers, in the order of the first courses to them."""

    def __init__(self, book):
        # The states, each with the place in this order of the one from where it was found first, and the move.
        self._places = [(0, None, None)]
        if can_begin(book[1]):
            self._signs = Signs(book)
            self._find()

    def _find(self):
        """Finds all states."""
        signs = self._signs
        filings = signs.filing_rows
        places = self._places
        known = {0: True}
        at = 0
        while at < len(places):
            code = places[at][0]
            if not code & signs.ended:
                for role, kind, rule, filed, _, wide, once, needs in filings:
                    if code & wide == filed and (not needs or is_ready(code, needs)):
                        behind = code | once if once else signs.behind_filing(code, role, rule)
                        if behind not in known:
                            known[behind] = True
                            places.append((behind, at, ("file", role, kind)))
                if code & signs.live:
                    for move, bit, turned, added in signs.quiet():
                        if code & bit:
                            behind = (code ^ turned) | added
                            if behind not in known:
                                known[behind] = True
                                places.append((behind, at, move))
                if len(places) > MOST_STATES:
                    raise TooMuch("too many loose states")
            at += 1

    def states(self):
        """The list of all states."""
        if len(self._places) == 1:
            return [FIRST_STATE]
        return self._signs.states([code for code, _, _ in self._places])

    def road(self, at):
        """The first course to the state with this place in the order."""
        moves = []
        while at > 0:
            _, at, move = self._places[at]
            moves.append(move)
        return moves[::-1]

    def first_filed(self, kind):
        """The place of the first state in which the kind has been filed, or None."""
        if len(self._places) == 1:
            return None
        bit = self._signs.bits[kind]
        for at, (code, _, _) in enumerate(self._places):
            if code & bit:
                return at
        return None

    def _is_alive(self, code):
        """True if a kind can be filed in the state."""
        for _, _, _, filed, mask, _, _, needs in self._signs.filing_rows:
            if code & mask == filed and (not needs or is_ready(code, needs)):
                return True
        return False

    def first_dead_end(self):
        """The place of the first dead end, or None."""
        if len(self._places) == 1:
            return 0
        ended = self._signs.ended
        # The states in which nothing can be filed, with their places; those from which some other one follows go out.
        still = {code: at for at, (code, _, _) in enumerate(self._places)
                 if not code & ended and not self._is_alive(code)}
        before = {}
        alive = []
        for code in still:
            for _, bit, turned, added in self._signs.quiet() if code & self._signs.live else []:
                if code & bit:
                    behind = (code ^ turned) | added
                    if behind in still:
                        before.setdefault(behind, []).append(code)
                    else:
                        alive.append(code)
        while len(alive) > 0:
            code = alive.pop()
            if still[code] is not None:
                still[code] = None
                alive.extend(before.get(code, []))
        return min([at for at in still.values() if at is not None], default=None)
