"""The same things reckoned another way: day by day, and slowly, with Python's own dates."""

import datetime

LAST = 1000000
# Python's dates begin with the year 1; the Gregorian calendar repeats itself after 400 years.
CYCLE = 146097


def date(day):
    told = datetime.date.fromordinal(day + CYCLE - 365)
    return (told.year - 400, told.month, told.day)


def day_at(year, month, day):
    return datetime.date(year + 400, month, day).toordinal() + 365 - CYCLE


def month_length(year, month):
    behind = day_at(year + month // 12, month % 12 + 1, 1)
    return behind - day_at(year, month, 1)


def weekday(day):
    return datetime.date.fromordinal(day + CYCLE - 365).weekday()


def months_later(day, months):
    year, month, at = date(day)
    for _ in range(months):
        month += 1
        if month == 13:
            year, month = year + 1, 1
    return day_at(year, month, min(at, month_length(year, month)))


def easter(year):
    """The well-known reckoning of Meeus, Jones and Butcher."""
    a, b, c = year % 19, year // 100, year % 100
    d, e = divmod(b, 4)
    g = (8 * b + 13) // 25
    h = (19 * a + b - d - g + 15) % 30
    i, k = divmod(c, 4)
    m = (32 + 2 * e + 2 * i - h - k) % 7
    n = (a + 11 * h + 22 * m) // 451
    month, day = divmod(h + m - 7 * n + 114, 31)
    return day_at(year, month, day + 1)


def is_meant(mark, day):
    year, month, at = date(day)
    if mark[0] == "date":
        return mark[1:] == (month, at)
    if mark[0] == "feast":
        return day - mark[1] == easter(year)
    if mark[1] != month or mark[2] != weekday(day):
        return False
    if mark[3] == -1:
        return at + 7 > month_length(year, month)
    return (at - 1) // 7 + 1 == mark[3]


def kind(calendar, day):
    closed, yearly, singles, recesses = calendar
    if any(first <= day < behind for first, behind in recesses):
        return "rest"
    for single, word in singles:
        if single == day:
            return word
    if weekday(day) in closed or any(is_meant(mark, day) for mark in yearly):
        return "shut"
    return "open"


class Kinds:
    """The kinds of a calendar's days, kept."""

    def __init__(self, calendar):
        self.calendar = calendar
        self.kept = {}

    def __call__(self, day):
        if day not in self.kept:
            self.kept[day] = kind(self.calendar, day)
        return self.kept[day]


class NoLastDay(Exception):
    """The term has no last day."""


def day_state(stays, day):
    modes = [mode for _, _, first, behind, mode in stays if first <= day and (behind is None or day < behind)]
    if "anew" in modes:
        return "anew"
    return "rests" if modes else "runs"


def counts(kinds, rule, day):
    count, unit, _, _, short = rule
    if unit == "open" or (unit == "days" and count < short):
        return kinds(day) == "open"
    if unit == "days":
        return kinds(day) != "rest"
    return True


def need(rule, begin):
    count, unit, since, _, _ = rule
    if unit == "weeks":
        return count * 7
    if unit == "months":
        origin = begin if since == "next" else begin + 1
        return months_later(origin, count) - origin
    return count


def no_day(stays):
    if any(behind is None for _, _, _, behind, _ in stays):
        return None
    raise NoLastDay


def open_from(stays):
    """From this day on no day runs; a term that has come so far has no full day any more."""
    return min([first for _, _, first, behind, _ in stays if behind is None] + [LAST + 1])


def free(kinds, stays, day):
    return kinds(day) == "open" and day_state(stays, day) == "runs"


def roll(kinds, stays, word, floor, full):
    if word == "no":
        return full
    if word == "on":
        for day in range(full, open_from(stays)):
            if free(kinds, stays, day):
                return day
        return no_day(stays)
    for day in range(full, floor - 1, -1):
        if free(kinds, stays, day):
            return day
    return floor


def paper(kinds, rule, stays, start):
    """The paper of a term, day by day; None if it stands still."""
    begin = start if rule[2] == "next" else start - 1
    needed = need(rule, begin)
    floor = start
    full = None
    counted = []
    if needed == 0:
        full = start
    else:
        for day in range(begin + 1, open_from(stays)):
            state = day_state(stays, day)
            if state == "anew":
                begin, counted, floor = day, [], day + 1
                needed = need(rule, begin)
            elif state == "runs" and counts(kinds, rule, day):
                counted.append(day)
                if len(counted) == needed:
                    full = day
                    break
    if full is None:
        return no_day(stays)
    last = roll(kinds, stays, rule[3], floor, full)
    if last is None:
        return None
    runs = []
    for day in counted:
        if runs and runs[-1][1] == day:
            runs[-1] = (runs[-1][0], day + 1)
        else:
            runs.append((day, day + 1))
    return (begin, needed, tuple(runs), full, last)


def last_day(kinds, rule, stays, start):
    told = paper(kinds, rule, stays, start)
    return None if told is None else told[4]


def left(kinds, rule, stays, start, today):
    """What is left of a term on a day, day by day."""
    begin = start if rule[2] == "next" else start - 1
    needed = need(rule, begin)
    counted = 0
    for day in range(begin + 1, today + 1):
        if counted == needed:
            break
        state = day_state(stays, day)
        if state == "anew":
            begin, counted = day, 0
            needed = need(rule, begin)
        elif state == "runs" and counts(kinds, rule, day):
            counted += 1
    return needed - counted


class Regimes:
    """Terms by regimes, with the kinds of their calendars kept."""

    def __init__(self, regimes):
        self.way = regimes[0]
        self.rows = [(first, Kinds(calendar), dict(rules)) for first, (calendar, rules) in regimes[1]]

    def history(self, stays, start, word):
        """The steps of a term; KeyError without a rule, NoLastDay without a last day."""
        rows = [row for row in self.rows if row[0] <= start]
        first, kinds, rules = rows[-1]
        last = last_day(kinds, rules[word], stays, start)
        told = [(first, last)]
        for first, kinds, rules in self.rows[len(rows):]:
            if self.way == "old" or word not in rules or (last is not None and first > last):
                continue
            found = last_day(kinds, rules[word], stays, start)
            if self.way == "kind":
                last = None if None in (found, last) else max(found, last)
            elif found is None or found >= first:
                last = found
            else:
                last = roll(kinds, stays, rules[word][3], first, first)
            told.append((first, last))
        return told

    def last(self, stays, start, word):
        return self.history(stays, start, word)[-1][1]


def last_start(kinds, rule, e):
    """The last start for a day, counted backward."""
    count, unit, since, rolling, _ = rule
    bound = e
    if rolling == "on":
        while bound >= 0 and kinds(bound) != "open":
            bound -= 1
        if bound < 0:
            return None
    elif rolling == "back":
        behind = [day for day in range(e + 1, min(LAST, e + 3000) + 1) if kinds(day) == "open"][:1]
        bound = behind[0] - 1 if behind else LAST
    if count == 0:
        found = bound
    elif unit == "months":
        found = months_backward(bound if since == "next" else bound + 1, count)
    else:
        day = bound + 1
        left_over = need(rule, 0)
        while left_over > 0:
            day -= 1
            if day < 0:
                return None
            if counts(kinds, rule, day):
                left_over -= 1
        found = day - 1 if since == "next" else day
    if found is None or found < 0:
        return None
    return min(found, e) if rolling == "back" else found


def months_backward(p, count):
    year, month, at = date(p)
    far = year * 12 + month - 1 - count
    if far < 0:
        return None
    earlier = (far // 12, far % 12 + 1)
    length = month_length(*earlier)
    if at == month_length(year, month):
        return day_at(*earlier, length)
    return day_at(*earlier, min(at, length))
