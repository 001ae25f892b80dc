"""Charters and deeds at random, and a slow office that goes on day by day and reckons all from its log anew."""

from docketloom.appeals import Matter
from docketloom.docket import Docket
from docketloom.errors import NotThere, OutOfRange, Refused, TooMuch
from docketloom.fees import fee_due
from docketloom.placing import place
from docketloom.regimes import regime_at
from docketloom.shifting import order, plain
from docketloom.standing import scene
from docketloom.wheels import deal, full_state
from serving import known, random_manner, random_powers

EVERY = (0, 1, 2, 3, 4, 5, 6)
RULES = (("five", (5, "days", "next", "on", 0)), ("month", (1, "months", "next", "on", 0)), ("never", (1, "open", "next", "no", 0)),
         ("two", (2, "days", "next", "no", 0)))
LATER = (("five", (3, "open", "next", "on", 0)), ("month", (9, "days", "day", "back", 0)), ("never", (2, "weeks", "next", "no", 0)),
         ("two", (4, "days", "next", "on", 3)))
BOOK = ((("answer", "month", 5), ("pay", "five", None), ("reply", "two", 0)), (
    ("claim", ("plaintiff",), (), (), (("answer", "defendant"), ("pay", "")), (), False),
    ("defence", ("defendant",), (("filed", "claim"),), ("answer",), (("reply", "plaintiff"),), (), False),
    ("motion", ("court", "defendant", "plaintiff"), (("open", "answer"),), ("pay", "reply"), (("reply", "defendant"),), ("motion",), False),
    ("ruling", ("court",), (("lapsed", "answer"),), (), (), (), True)))
FEES = (("old", "new", "kind"), ((0, (("claim", ("down", ((0, 100, (1, 10)),))), ("motion", ("up", ((0, 7, (0, 1)),))))),
                                 (12, (("claim", ("near", ((0, 50, (1, 3)), (900, 60, (1, 2)))),),))))
CAUSES = ("one", "two", "three")
PARTIES = ("bob", "dan", "pam")
HEADS = ((("debt", "", 0), ("costs", "debt", 1)), (("debt", "", 0),), (("debt", "", 0), ("house", "", 0), ("costs", "house", 0)))


def random_charter(dice):
    calendar = ((5, 6), (), ((9, "shut"),), dice.choice(((), ((15, 18),))))
    regimes = (dice.choice(("old", "new", "kind")), ((0, (calendar, RULES)), (20, (((6,), (), (), ()), LATER))))
    ladder = dice.choice(((("five",), "two", 1), (("five", "two"), "two", 0), (("two", "month", "five"), "five", 1)))
    judges = (("ann", ("claim",), (EVERY, 0, 8, ((25, 28),))), ("bea", (), (EVERY, 2, 16, ())), ("cid", (), (EVERY, 0, 16, ())))
    bench = (judges, (("hall", (EVERY, 0, 16, ())), ("room", (EVERY[:5], 4, 12, ()))))
    wheel = (("ann", dice.randint(1, 2)), ("bea", dice.randint(1, 3)))
    rule = dice.choice((("own", (1, 1)), ("loser", (1, 1)), ("part", (2, 3))))
    names = ("bob", "dan", "law", "eve")
    return (BOOK, regimes, random_manner(dice), random_powers(dice, 5, names=names), ladder, (dice.choice(FEES[0]), FEES[1]),
            rule, wheel, bench)


def likely_deed(dice, slow):
    """A deed that most times can be done in the office as it is."""
    for _ in range(20):
        deed = random_deed(dice, slow)
        if slow.fault(deed) is None or dice.random() < 0.03:
            return deed
    return deed


FIRST_DEEDS = (("pass", 5), ("begin", 5, "one", (("bob", "defendant"), ("dan", "defendant"), ("pam", "plaintiff")), 900, (), 1),
               ("file", 5, "one", "pam", "claim"), ("heads", "one", HEADS[0], ("bob", "pam"), (2, 1)))
WORDS = """pass pass pass begin file file file event event event event event event leave stay lift strike amend amend heads judge
judge judge judge appeal appeal appeal send expense hearing hearing unlist""".split()


def random_deed(dice, slow):
    """A deed that may be done in the office as it is, or not."""
    today = slow.day
    held = today + dice.choice((0, 0, 0, 0, -1, -3, 1)) if today > 3 else today
    cause, party = dice.choice(CAUSES + ("one", "one")), dice.choice(PARTIES)
    number = dice.randint(0, len(slow.docket.entries()))
    files = [entry[0] for entry in slow.docket.entries() if entry[3][0] == "file"]
    word = dice.choice(WORDS)
    if word == "pass":
        return (word, today + dice.choice((0, 1, 1, 2, 3, 5, 9)))
    if word == "begin":
        roles = (("bob", "defendant"), ("dan", dice.choice(("defendant", "plaintiff"))), ("pam", "plaintiff"))
        barred = dice.choice(((), (), ("ann",), ("bea",), ("ann", "bea")))
        return (word, held, cause, dice.choice((roles, roles, roles[1:])), dice.randint(0, 2000), barred, dice.randint(0, 9))
    if word == "file":
        return (word, held, cause, dice.choice(PARTIES + ("court",)), dice.choice(("claim", "claim", "defence", "motion", "ruling", "none")))
    if word == "event":
        deed = dice.choice(("back", "door", "hand", "hand", "post", "post", "try", "try"))
        return (word, dice.choice(files + files + [number]), party, deed, dice.choice(("bob", "dan", "pam", "law")))
    if word == "leave":
        return (word, held, cause, party, dice.choice(("answer", "pay", "reply", "none")), today + dice.randint(-2, 9) if today > 3 else 9)
    if word == "stay":
        return (word, held) + dice.choice((("all", ""), ("cause", cause), ("party", party))) + (dice.choice(("rests", "anew")),)
    if word == "lift":
        return (word, held, number)
    if word == "strike":
        return (word, number)
    if word == "amend":
        return (word, number, held)
    if word == "heads":
        return (word, cause, dice.choice(HEADS), tuple(dice.sample(PARTIES, 2)), (dice.randint(0, 2), dice.randint(0, 2)))
    if word in ("judge", "appeal", "send"):
        head = dice.choice(("debt", "debt", "costs", "house"))
        return (word, cause, head, dice.randint(0, 1)) if word == "judge" else (word, cause, head)
    if word == "expense":
        return (word, cause, party, dice.randint(1, 99), dice.choice((("debt",), ("costs", "debt"), ("debt", "house"))))
    first = dice.randint(0, 12)
    day = today + dice.choice((0, 1, 1, 2, -1)) if today > 0 else today
    if word == "hearing":
        return (word, day, cause, dice.choice((1, 3, 9)), first, dice.randint(first + 1, 16))
    return (word, day, cause)


class Slow:
    """An office that keeps its log and its docket alone."""

    def __init__(self, charter):
        self.charter = charter
        self.day = 0
        self.log = []
        self.docket = Docket(charter[0], charter[1])
        self.own = []

    def begin_of(self, cause, k):
        """The deed that began a cause up to the day k; or None."""
        return next((deed for day, deed in self.log if deed[0] == "begin" and deed[2] == cause and day <= k), None)

    def begin_number(self, cause):
        return next(number for number, _, _, deed in self.docket.entries() if deed[:2] == ("begin", cause))

    def cards(self):
        """The state of the wheel, and the judges of all causes."""
        state, judges = full_state(self.charter[7]), {}
        for _, deed in self.log:
            if deed[0] == "begin":
                judges[deed[2]], state = deal(self.charter[7], state, deed[5], deed[6])
        return state, judges

    def heads_of(self, cause, k):
        return next((deed for day, deed in self.log if deed[:2] == ("heads", cause) and day <= k), None)

    def events(self, number, party, k):
        return tuple(sorted((day, deed[3], deed[4]) for day, deed in self.log
                            if deed[:3] == ("event", number, party) and day <= k))

    def served(self, number, party, k):
        _, _, manner, powers = self.charter[:4]
        calendar = regime_at(self.charter[1], self.docket.entries()[number][1])[0]
        return known(calendar, manner, powers, party, self.events(number, party, k), k)

    def papers(self):
        return sorted({deed[1:3] for _, deed in self.log if deed[0] == "event"})

    def settle(self, day):
        """Point 190, as if the day were today."""
        while True:
            found = None
            stage = scene(self.docket, day, day)
            days = dict(self.docket.rows(day))
            for number, party in self.papers():
                served = self.served(number, party, day)
                cause = self.docket.entries()[number][3][1]
                if served is None or cause not in stage.causes():
                    continue
                for row in stage.duties(cause, day):
                    if row[:2] == (number, party) and row[3] == "waiting":
                        triple = (number, party, row[2])
                        if found is None or triple < found[0]:
                            found = (triple, max(served, days[number]), cause)
            if found is None:
                return
            (number, party, duty), held, cause = found
            self.own.append(self.docket.enter(day, held, ("served", cause, party, duty)))

    def fault(self, deed):
        """The error that is due ahead of all others, or None; a docket is not thought to get full."""
        for error, is_due in ((OutOfRange, self.is_out), (NotThere, self.is_missing), (Refused, self.is_refused),
                              (TooMuch, self.is_much)):
            if is_due(deed):
                return error
        return None

    def is_out(self, deed):
        if deed[0] in ("begin", "file", "leave", "stay", "lift"):
            return deed[1] > self.day
        if deed[0] == "amend":
            return deed[2] > self.day
        if deed[0] == "pass":
            return deed[1] <= self.day
        return deed[0] in ("hearing", "unlist") and deed[1] < self.day

    def is_missing(self, deed):
        word = deed[0]
        entries = self.docket.entries()
        if word in ("strike", "amend", "lift"):
            return (deed[2] if word == "lift" else deed[1]) >= len(entries)
        if word == "file":
            return deed[4] not in [kind[0] for kind in self.charter[0][1]]
        if word == "leave":
            return deed[4] not in [rule[0] for rule in self.charter[0][0]]
        if word == "event":
            if deed[1] >= len(entries) or entries[deed[1]][3][0] != "file":
                return True
            return not self.has_parties(entries[deed[1]][3][1], [deed[2]])
        if word == "heads":
            return not self.has_parties(deed[1], deed[3])
        if word == "expense":
            return not self.has_parties(deed[1], [deed[2]]) or not self.has_heads(deed[1], deed[4])
        if word in ("judge", "appeal", "send"):
            return self.begin_of(deed[1], self.day) is None or not self.has_heads(deed[1], [deed[2]])
        if word in ("hearing", "unlist"):
            if self.begin_of(deed[2], self.day) is None:
                return True
            return word == "unlist" and deed[2] not in [row[0] for row in self.hearings(deed[1], self.day)]
        return False

    def has_parties(self, cause, parties):
        begin = self.begin_of(cause, self.day)
        return begin is not None and all(party in [name for name, _ in begin[3]] for party in parties)

    def has_heads(self, cause, heads):
        deed = self.heads_of(cause, self.day)
        return deed is not None and all(head in [name for name, _, _ in deed[2]] for head in heads)

    def is_refused(self, deed):
        word = deed[0]
        if word == "begin":
            return self.begin_of(deed[2], self.day) is not None or all(judge in deed[5] for judge, _ in self.charter[7])
        if word in ("strike", "amend"):
            corrects = self.docket.entries()[deed[1]][3][0] in ("strike", "amend")
            return deed[1] in self.own or (word == "amend" and corrects)
        if word == "heads":
            return self.heads_of(deed[1], self.day) is not None
        if word in ("judge", "appeal", "send"):
            try:
                self.make(self.matter(deed[1], self.day), self.day, deed)
            except Refused:
                return True
        if word == "hearing":
            listed = self.hearings(deed[1], self.day)
            if deed[2] in [row[0] for row in listed]:
                return True
            hearing = (deed[2], self.cards()[1][deed[2]]) + deed[3:]
            return len(listed) < 24 and place(self.charter[8], deed[1], listed + [hearing]) is None
        return False

    def is_much(self, deed):
        if deed[0] == "event":
            return len(self.events(deed[1], deed[2], self.day)) >= 60
        if deed[0] == "expense":
            return len(self.expenses(deed[1], self.day)) >= 60
        return deed[0] == "hearing" and len(self.hearings(deed[1], self.day)) >= 24

    def make(self, matter, day, deed):
        """Makes a move, and returns its answer."""
        if deed[0] == "judge":
            return matter.judge(day, deed[2], deed[3])
        return matter.appeal(day, deed[2]) if deed[0] == "appeal" else matter.send(day, deed[2])

    def take(self, deed):
        """Does a deed that can be done, and returns its answer."""
        word, day = deed[0], self.day
        answer = None
        if word in ("judge", "appeal", "send"):
            answer = self.make(self.matter(deed[1], day), day, deed)
        self.log.append((day, deed))
        if word == "pass":
            while self.day < deed[1]:
                self.day += 1
                self.settle(self.day)
        elif word == "begin":
            answer = self.docket.enter(day, deed[1], deed[:1] + deed[2:4])
        elif word in ("file", "leave", "stay", "lift"):
            answer = self.docket.enter(day, deed[1], deed[:1] + deed[2:])
        elif word in ("strike", "amend"):
            answer = self.docket.enter(day, day, deed)
        self.settle(self.day)
        return answer

    def matter(self, cause, k):
        """The matter as known on k, move by move."""
        _, _, heads, _, allowances = self.heads_of(cause, k)
        stays = tuple(stay for stay in scene(self.docket, k, k).stays() if stay[:2] in (("all", ""), ("cause", cause)))
        matter = Matter(self.charter[4], heads, allowances, self.charter[1], stays)
        for day, deed in self.log:
            if deed[0] in ("judge", "appeal", "send") and deed[1] == cause and day <= k:
                try:
                    self.make(matter, day, deed)
                except Refused:
                    pass
        return matter

    def judgment(self, cause, k):
        matter = self.matter(cause, k)
        sides = self.heads_of(cause, k)[3]
        values = {head: matter.value(head) for head, _, _ in matter.heads}
        return tuple(sorted((head, sides[value], sides[1 - value]) for head, value in values.items() if value is not None))

    def expenses(self, cause, k):
        return [deed[2:] for day, deed in self.log if deed[:2] == ("expense", cause) and day <= k]

    def order(self, cause, k):
        return order(self.expenses(cause, k), self.judgment(cause, k), self.charter[6])

    def turn(self, cause, k, m):
        return plain(self.order(cause, m) + [(other, one, amount) for one, other, amount in self.order(cause, k)])

    def fees(self, cause, k):
        stage = scene(self.docket, k, k)
        if cause not in stage.causes():
            return []
        days = dict(self.docket.rows(k))
        found = []
        for number, kind in stage.filings(cause):
            try:
                worth = self.begin_of(cause, k)[4]
                found.append((number, fee_due(self.charter[5], kind, worth, days[self.begin_number(cause)], days[number])))
            except NotThere:
                pass
        return found

    def hearings(self, day, k):
        found = {}
        judges = self.cards()[1]
        for told, deed in self.log:
            if told <= k and deed[:2] == ("hearing", day):
                found[deed[2]] = (deed[2], judges[deed[2]]) + deed[3:]
            if told <= k and deed[:2] == ("unlist", day):
                del found[deed[2]]
        return [found[name] for name in sorted(found)]
