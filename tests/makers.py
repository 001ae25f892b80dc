"""Random calendars, rules, regimes and stays, by a dice with a seed."""

LAST = 1000000


def calendar(dice, near, wide=400):
    """A calendar whose singles and recesses are near a day."""
    low = max(0, near - wide)
    high = min(LAST, near + wide)
    closed = tuple(sorted(dice.sample(range(7), dice.choice((0, 1, 2, 2, 2, 3, 5, 6)))))
    yearly = set()
    for _ in range(dice.choice((0, 1, 5, 12, 40))):
        yearly.add(dice.choice((
            ("date", dice.randint(1, 12), dice.randint(1, 28)),
            ("date", 2, 29),
            ("feast", dice.randint(-60, 60)),
            ("nth", dice.randint(1, 12), dice.randint(0, 6), dice.choice((-1, 1, 2, 3, 4, 5))),
        )))
    days = dice.sample(range(low, high + 1), dice.choice((0, 0, 5, 30, 100)))
    singles = tuple((day, dice.choice(("open", "shut"))) for day in sorted(days))
    recesses = []
    at = low
    for _ in range(dice.choice((0, 0, 1, 3, 10))):
        first = at + dice.choice((0, 0, 1, 10, 60))
        behind = first + dice.choice((1, 2, 7, 30, 100))
        if behind <= high:
            recesses.append((first, behind))
            at = behind
    return (closed, tuple(sorted(yearly)), singles, tuple(recesses))


def rule(dice, most=40):
    unit = dice.choice(("days", "open", "weeks", "months"))
    start = dice.choice(("day", "next"))
    count = dice.choice((0, 1, 2, 3, dice.randint(0, most)))
    if unit in ("weeks", "months"):
        count = min(count, 6)
    if start == "day":
        count = max(1, count)
    short = dice.choice((0, 0, 7, 100)) if unit == "days" else 0
    return (count, unit, start, dice.choice(("on", "back", "no")), short)


def regimes(dice, near, wide=60, words=("month", "week"), many=4, most=40):
    """Regimes that change near a day; now and then a word has no rule."""
    way = dice.choice(("old", "new", "kind"))
    firsts = sorted({0} | {max(1, min(LAST, near + dice.randint(-wide, wide))) for _ in range(dice.randint(0, many))})
    rows = []
    for first in firsts:
        rules = tuple((word, rule(dice, most)) for word in sorted(words) if dice.random() < 0.9)
        rows.append((first, (calendar(dice, near, 100), rules)))
    return (way, tuple(rows))


def stays(dice, near, wide=60, names=("ann", "bob"), many=5, may_be_open=True):
    rows = []
    for _ in range(dice.randint(0, many)):
        scope = dice.choice(("all", "cause", "party"))
        first = max(0, min(LAST - 1, near + dice.randint(-wide, wide)))
        behind = min(LAST, first + dice.choice((1, 2, 5, 20, 60)))
        if may_be_open and dice.random() < 0.1:
            behind = None
        rows.append((scope, "" if scope == "all" else dice.choice(names), first, behind,
                     dice.choice(("rests", "rests", "anew"))))
    return tuple(rows)
