"""Loose states of a rule book as numbers, and the moves between them as changes of these numbers."""

from docketloom.kinds import COURT

# The bits of a duty of a role: whether it has been opened, how it stands, and whether it was done and has lapsed.
SEEN = 1
WAITING = 2
OPEN = 4
OVERDUE = 8
DONE = 16
LAPSED = 32
LIVE_BITS = 14
WAITING_OR_OPEN = 6
OPEN_OR_OVERDUE = 12
ALL_BITS = 63
BITS = 6
BIT_OF_NEED = {"waiting": 2, "open": 4, "overdue": 8, "lapsed": 32, "done": 16}
WORD_OF_BIT = {0: "", 2: "waiting", 4: "open", 8: "overdue"}


def pairs_of(kinds):
    """A dict of the pairs of a role and a duty that some kind opens."""
    found = {}
    for rule in kinds:
        for duty, asked in rule[4]:
            for role in rule[1]:
                found[(role if asked == "" else asked, duty)] = True
    return found


def is_ready(code, needs):
    """True if all needs for duties hold."""
    for bits in needs:
        if not code & bits:
            return False
    return True


class Signs:
    """A rule book, made ready for loose states as numbers: a bit for each kind, one for the end, some for each duty."""

    def __init__(self, book):
        self._duties, rules = book
        self.bits = {rule[0]: 1 << at for at, rule in enumerate(rules)}
        self.ended = 1 << len(rules)
        # All pairs of a role and a duty that can be opened, and where the bits of each one begin.
        self._pairs = sorted(pairs_of(rules))
        self._base = len(rules) + 1
        self._places = {}
        # The first bits of all pairs with one duty.
        self._ones = {}
        self.live = 0
        for at, pair in enumerate(self._pairs):
            place = self._base + BITS * at
            self._places[pair] = place
            self._ones[pair[1]] = self._ones.get(pair[1], 0) | (1 << place)
            self.live |= LIVE_BITS << place
        self.filing_rows = self._found_filings(rules)
        self._changes = {}
        self._quiet = None

    def _found_filings(self, rules):
        """The filings that need be looked at, ascending: tuples (role, kind, rule, filed, mask, wide, once, needs).

        The filing can be made if of the kinds under the mask just those have been filed that are in filed, and if the
        needs hold. Once is the bit of a kind that changes nothing but that it is filed, and otherwise 0; the wide mask
        lets such a kind be filed only once, for then it leads on no more.
        """
        barring = {}
        for rule in rules:
            for other in rule[5]:
                barring[other] = barring.get(other, 0) | self.bits[rule[0]]
        by_role = {}
        for rule in rules:
            kind, roles, needs, does, opens, _, ends = rule
            filed = 0
            free = barring.get(kind, 0)
            asked = []
            for word, name in needs:
                if word == "filed":
                    filed |= self.bits[name]
                elif word == "free":
                    free |= self.bits[name]
                else:
                    asked.append(BIT_OF_NEED[word] * self._ones.get(name, 0))
            # What has to be filed and free at once, or a duty that is never opened, is no need that can hold.
            if filed & free == 0 and 0 not in asked:
                once = 0 if does or opens or ends else self.bits[kind]
                mask = filed | free
                # What is done and opened hangs on the role; without it, what follows is the same for all roles.
                for role in roles if does or opens else roles[:1]:
                    by_role.setdefault(role, []).append((role, kind, rule, filed, mask, mask | once, once, asked))
        return [row for role in sorted(by_role) for row in by_role[role]]

    def behind_filing(self, code, role, rule):
        """The state behind a filing that changes duties, or ends the cause."""
        key = (role, rule[0])
        if key not in self._changes:
            self._changes[key] = self._found_changes(role, rule)
        done, opened, ends = self._changes[key]
        for live, bit in done:
            held = code & live
            if held:
                code = (code ^ held) | bit
        for live, bits in opened:
            if not code & live:
                code |= bits
        if ends:
            code = (code ^ (code & self.live)) | self.ended
        return code | self.bits[rule[0]]

    def _found_changes(self, role, rule):
        """What a filing changes: pairs of bits for the duties that it does and opens, and whether it ends the cause."""
        _, _, _, does, opens, _, ends = rule
        done = []
        for duty in does:
            if (role, duty) in self._places:
                place = self._places[(role, duty)]
                done.append((LIVE_BITS << place, DONE << place))
        opened = []
        for duty, asked in opens:
            other = role if asked == "" else asked
            place = self._places[(other, duty)]
            opened.append((LIVE_BITS << place, (SEEN | (OPEN if other in (role, COURT) else WAITING)) << place))
        return (done, opened, ends)

    def quiet(self):
        """The moves that are no filings, ascending: tuples (move, bit that is needed, bits to turn, bits to set)."""
        if self._quiet is None:
            graces = {duty: grace for duty, _, grace in self._duties}
            leaves = []
            passes = []
            serves = []
            for (role, duty), place in self._places.items():
                grace = graces[duty]
                leaves.append((("leave", role, duty), OVERDUE << place, OPEN_OR_OVERDUE << place, 0))
                serves.append((("serve", role, duty), WAITING << place, WAITING_OR_OPEN << place, 0))
                move = ("pass", role, duty)
                if grace == 0:
                    passes.append((move, OPEN << place, OPEN << place, LAPSED << place))
                else:
                    passes.append((move, OPEN << place, OPEN_OR_OVERDUE << place, 0))
                if grace is not None:
                    passes.append((move, OVERDUE << place, OVERDUE << place, LAPSED << place))
            self._quiet = leaves + passes + serves
        return self._quiet

    def states(self, codes):
        """The list of the loose states with these numbers."""
        kinds = list(self.bits.items())
        names = {0: ()}
        rows = {0: ()}
        found = []
        for code in codes:
            filed = code & (self.ended - 1)
            if filed not in names:
                names[filed] = tuple([kind for kind, bit in kinds if filed & bit])
            duties = code >> self._base
            if duties not in rows:
                rows[duties] = self._duty_rows(duties)
            found.append((names[filed], rows[duties], code & self.ended != 0))
        return found

    def _duty_rows(self, bits):
        """The duties of a loose state, as a tuple of rows."""
        found = []
        for role, duty in self._pairs:
            held = bits & ALL_BITS
            bits >>= BITS
            if held:
                found.append((role, duty, WORD_OF_BIT[held & LIVE_BITS], held & DONE != 0, held & LAPSED != 0))
        return tuple(found)
