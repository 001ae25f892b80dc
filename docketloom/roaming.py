"""Loose states and moves of a rule book, and the search through all states that can be reached."""

from docketloom.causes import LIVE
from docketloom.errors import TooMuch
from docketloom.kinds import COURT, FILING_NEEDS

FIRST_STATE = ((), (), False)
MOST_STATES = 2000


def with_duty(duties, role, duty, live, is_done, is_lapsed):
    """The duties of a loose state with another row for one of them."""
    return tuple([(role, duty, live, is_done, is_lapsed) if row[0] == role and row[1] == duty else row
                  for row in duties])


class Looseness:
    """A rule book, made ready for loose moves."""

    def __init__(self, book):
        self.graces = {duty: grace for duty, _, grace in book[0]}
        self.words = {duty: word for duty, word, _ in book[0]}
        self._kinds = book[1]
        self._rules = {rule[0]: rule for rule in book[1]}

    def moves(self, state):
        """The ascending list of the moves in a state."""
        filed, duties, is_ended = state
        if is_ended:
            return []
        found = [("file", role, kind) for kind, roles, needs, _, _, _, _ in self._kinds
                 if self._may_be_filed(filed, duties, kind, needs) for role in roles]
        for role, duty, live, _, _ in duties:
            if live == "waiting":
                found.append(("serve", role, duty))
            elif live == "open":
                found.append(("pass", role, duty))
            elif live == "overdue":
                found.append(("leave", role, duty))
                if self.graces[duty] is not None:
                    found.append(("pass", role, duty))
        return sorted(found)

    def _may_be_filed(self, filed, duties, kind, needs):
        """True if the kind is not barred, and its needs hold."""
        if any(kind in self._rules[other][5] for other in filed):
            return False
        return all(self._holds(filed, duties, word, name) for word, name in needs)

    def _holds(self, filed, duties, word, name):
        """True if a need holds."""
        if word in FILING_NEEDS:
            return (name in filed) == (word == "filed")
        if word == "done":
            return any(is_done for _, duty, _, is_done, _ in duties if duty == name)
        if word == "lapsed":
            return any(is_lapsed for _, duty, _, _, is_lapsed in duties if duty == name)
        return any(live == word for _, duty, live, _, _ in duties if duty == name)

    def after(self, state, move):
        """The state behind a move in a state."""
        word, role, name = move
        if word == "file":
            return self._filed(state, role, name)
        filed, duties, _ = state
        for other, duty, live, is_done, is_lapsed in duties:
            if other == role and duty == name:
                if word == "pass":
                    lapses = live == "overdue" or self.graces[name] == 0
                    return (filed, with_duty(duties, role, name, "" if lapses else "overdue", is_done,
                                             is_lapsed or lapses), False)
                return (filed, with_duty(duties, role, name, "open", is_done, is_lapsed), False)
        return state

    def _filed(self, state, role, kind):
        """The state behind a filing."""
        filed, duties, _ = state
        _, _, _, does, _, _, ends = self._rules[kind]
        rows = {(row[0], row[1]): row for row in duties}
        for duty in does:
            row = rows.get((role, duty))
            if row is not None and row[2] in LIVE:
                rows[(role, duty)] = (role, duty, "", True, row[4])
        for other, duty in self.opened(state, role, kind):
            _, _, _, is_done, is_lapsed = rows.get((other, duty), (other, duty, "", False, False))
            rows[(other, duty)] = (other, duty, "open" if other in (role, COURT) else "waiting", is_done, is_lapsed)
        if ends:
            rows = {key: (row[0], row[1], "", row[3], row[4]) for key, row in rows.items()}
        kinds = filed if kind in filed else tuple(sorted(filed + (kind,)))
        return (kinds, tuple(sorted(list(rows.values()))), ends)

    def opened(self, state, role, kind):
        """The pairs (role, duty) of the duties that a filing by a role opens."""
        _, _, _, does, opens, _, _ = self._rules[kind]
        held = {(other, duty): True for other, duty, live, _, _ in state[1]
                if live in LIVE and not (other == role and duty in does)}
        found = []
        for duty, asked in opens:
            key = (role if asked == "" else asked, duty)
            if key not in held:
                held[key] = True
                found.append(key)
        return found


class Roads:
    """All loose states that can be reached, in the order of the first courses to them."""

    def __init__(self, book):
        loose = Looseness(book)
        self.states = [FIRST_STATE]
        # How each state was found first: the state before it, and the move.
        self._came = {FIRST_STATE: None}
        self._ways_out = {}
        # From where each state can be reached by a move that is no filing.
        self._before = {FIRST_STATE: []}
        at = 0
        while at < len(self.states):
            self._go_out(loose, self.states[at])
            at += 1

    def _go_out(self, loose, state):
        """Finds the states that follow a state."""
        moves = loose.moves(state)
        self._ways_out[state] = any(word == "file" for word, _, _ in moves)
        for move in moves:
            behind = loose.after(state, move)
            if behind not in self._came:
                if len(self.states) >= MOST_STATES:
                    raise TooMuch("too many loose states")
                self._came[behind] = (state, move)
                self._before[behind] = []
                self.states.append(behind)
            if move[0] != "file":
                self._before[behind].append(state)

    def course_of(self, state):
        """The first course to a state."""
        moves = []
        came = self._came[state]
        while came is not None:
            moves.append(came[1])
            came = self._came[came[0]]
        return moves[::-1]

    def dead_ends(self):
        """The list of the dead ends, in the order of the first courses to them."""
        alive = {state: True for state in self.states if self._ways_out[state]}
        left = list(alive)
        while len(left) > 0:
            behind = left.pop()
            for state in self._before[behind]:
                if state not in alive:
                    alive[state] = True
                    left.append(state)
        return [state for state in self.states if state not in alive and not state[2]]
