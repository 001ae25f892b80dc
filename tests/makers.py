"""Random calendars, rules, regimes and stays, by a dice with a seed."""

LAST = 1000000


def calendar(dice, near, wide=400):
    """A calendar whose singles and recesses are near a day."""
    low = max(0, near - wide)
    high = min(LAST, near + wide)
    closed = tuple(sorted(dice.sample(range(7), dice.choice((0, 1, 2, 2, 2, 3, 5, 6)))))
    yearly = set()
    for _ in range(dice.choice((0, 1, 5, 12, 40))):
        yearly.add(dice.choice((
            ("date", dice.randint(1, 12), dice.randint(1, 28)),
            ("date", 2, 29),
            ("feast", dice.randint(-60, 60)),
            ("nth", dice.randint(1, 12), dice.randint(0, 6), dice.choice((-1, 1, 2, 3, 4, 5))),
        )))
    days = dice.sample(range(low, high + 1), min(high + 1 - low, dice.choice((0, 0, 5, 30, 100))))
    singles = tuple((day, dice.choice(("open", "shut"))) for day in sorted(days))
    recesses = []
    at = low
    for _ in range(dice.choice((0, 0, 1, 3, 10))):
        first = at + dice.choice((0, 0, 1, 10, 60))
        behind = first + dice.choice((1, 2, 7, 30, 100))
        if behind <= high:
            recesses.append((first, behind))
            at = behind
    return (closed, tuple(sorted(yearly)), singles, tuple(recesses))


def rule(dice, most=40):
    unit = dice.choice(("days", "open", "weeks", "months"))
    start = dice.choice(("day", "next"))
    count = dice.choice((0, 1, 2, 3, dice.randint(0, most)))
    if unit in ("weeks", "months"):
        count = min(count, 6)
    if start == "day":
        count = max(1, count)
    short = dice.choice((0, 0, 7, 100)) if unit == "days" else 0
    return (count, unit, start, dice.choice(("on", "back", "no")), short)


def regimes(dice, near, wide=60, words=("month", "week"), many=4, most=40):
    """Regimes that change near a day; now and then a word has no rule."""
    way = dice.choice(("old", "new", "kind"))
    firsts = sorted({0} | {max(1, min(LAST, near + dice.randint(-wide, wide))) for _ in range(dice.randint(0, many))})
    rows = []
    for first in firsts:
        rules = tuple((word, rule(dice, most)) for word in sorted(words) if dice.random() < 0.9)
        rows.append((first, (calendar(dice, near, 100), rules)))
    return (way, tuple(rows))


def stays(dice, near, wide=60, names=("ann", "bob"), many=5, may_be_open=True):
    rows = []
    for _ in range(dice.randint(0, many)):
        scope = dice.choice(("all", "cause", "party"))
        first = max(0, min(LAST - 1, near + dice.randint(-wide, wide)))
        behind = min(LAST, first + dice.choice((1, 2, 5, 20, 60)))
        if may_be_open and dice.random() < 0.1:
            behind = None
        rows.append((scope, "" if scope == "all" else dice.choice(names), first, behind,
                     dice.choice(("rests", "rests", "anew"))))
    return tuple(rows)


def rule_book(dice, words=("month", "week")):
    """A rule book with up to four duties and six kinds, whose needs often hold."""
    duties = sorted(dice.sample(("answer", "pay", "plead", "reply"), dice.randint(0, 4)))
    kinds = sorted(dice.sample(("appeal", "brief", "claim", "motion", "order", "ruling"), dice.randint(1, 6)))
    roles = ("court", "defendant", "plaintiff")
    rules = []
    for kind in kinds:
        needs = set()
        for _ in range(dice.choice((0, 0, 0, 1, 2))):
            if duties and dice.random() < 0.6:
                needs.add((dice.choice(("waiting", "open", "overdue", "lapsed", "done")), dice.choice(duties)))
            else:
                needs.add((dice.choice(("filed", "free")), dice.choice(kinds)))
        does = sorted(dice.sample(duties, dice.randint(0, min(2, len(duties)))))
        opens = set()
        for _ in range(dice.choice((0, 1, 2)) if duties else 0):
            opens.add((dice.choice(duties), dice.choice(("",) + roles)))
        bars = sorted(dice.sample(kinds, dice.choice((0, 0, 0, 1))))
        rules.append((kind, tuple(sorted(dice.sample(roles, dice.randint(1, 3)))), tuple(sorted(needs)), tuple(does),
                      tuple(sorted(opens)), tuple(bars), dice.random() < 0.1))
    return (tuple((duty, dice.choice(words), dice.choice((None, 0, 0, 3, 20))) for duty in duties), tuple(rules))


def full_regimes(dice, near, words=("month", "week")):
    """Regimes with a rule for each word."""
    way, rows = regimes(dice, near)
    return (way, tuple((first, (days, tuple((word, rule(dice, 20)) for word in words))) for first, (days, _) in rows))


def entries(dice, book, near, many):
    """Entries of a docket, mostly such as have something to do."""
    duties = [rule[0] for rule in book[0]] or [None]
    kinds = [rule[0] for rule in book[1]]
    causes = ("one", "two")
    parties = ("ann", "bob", "cid", "court")
    entered = max(0, near - 60)
    found = []
    for number in range(many):
        entered = min(LAST, entered + dice.choice((0, 0, 1, 2, 5)))
        held = max(0, min(LAST, entered + dice.choice((0, 0, 0, 0, -1, -4, 3, -30))))
        cause = dice.choice(causes)
        word = dice.choice(("file",) * 8 + ("served",) * 4 + ("leave", "leave", "stay", "lift", "strike", "amend"))
        earlier = dice.randrange(number) if number else None
        if number < 2 or dice.random() < 0.02:
            roles = [dice.choice(("defendant", "plaintiff", "guest")) for _ in range(3)]
            deed = ("begin", causes[number % 2], tuple(zip(parties[:3], roles))[:dice.choice((2, 3, 3))])
        elif word == "file" or (duties == [None] and word in ("served", "leave")):
            deed = ("file", cause, dice.choice(parties), dice.choice(kinds))
        elif word == "served":
            deed = ("served", cause, dice.choice(parties), dice.choice(duties))
        elif word == "leave":
            deed = ("leave", cause, dice.choice(parties), dice.choice(duties), min(LAST, held + dice.randint(0, 40)))
        elif word == "stay":
            scope = dice.choice(("all", "cause", "party"))
            name = {"all": "", "cause": cause, "party": dice.choice(parties)}[scope]
            deed = ("stay", scope, name, dice.choice(("rests", "rests", "anew")))
        elif word == "lift":
            begun = [at for at, _, _, other in found if other[0] == "stay"]
            deed = ("lift", dice.choice(begun) if begun else earlier)
        elif word == "amend" and found[earlier][3][0] not in ("strike", "amend"):
            deed = ("amend", earlier, max(0, min(LAST, held + dice.randint(-20, 20))))
        else:
            deed = ("strike", earlier)
        found.append((number, entered, held, deed))
    return found
