"""Dockets played another way: nothing is kept, and each last day is reckoned by the plain way when it is asked for."""

import plain

LIVE = ("waiting", "open", "overdue")


def is_struck(entries, number, k):
    return any(deed == ("strike", number) and entered <= k and not is_struck(entries, later, k)
               for later, entered, _, deed in entries)


def rows(entries, k):
    found = []
    for number, entered, held, deed in entries:
        if entered > k or deed[0] in ("strike", "amend") or is_struck(entries, number, k):
            continue
        for later, known, _, other in entries:
            if other[0] == "amend" and other[1] == number and known <= k and not is_struck(entries, later, k):
                held = other[2]
        found.append((held, number))
    return [(number, held) for held, number in sorted(found)]


class Court:
    def __init__(self, book, regimes):
        self.duty_rules = {rule[0]: rule for rule in book[0]}
        self.kind_rules = {rule[0]: rule for rule in book[1]}
        self.regimes = plain.Regimes(regimes)
        self.begun = {}
        self.over = {}
        self.filed = {}
        self.duties = {}
        self.all_stays = []

    def last(self, duty):
        if "frozen" in duty:
            return duty["frozen"]
        if duty["start"] is None:
            return None
        stays = [stay["stay"] for stay in self.all_stays if stay["stay"] is not None and stay["number"] in duty["under"]]
        try:
            last = self.regimes.last(tuple(stays), duty["start"], self.duty_rules[duty["name"]][1])
        except plain.NoLastDay:
            return None
        if last is not None and duty["leave"]:
            last = max(last, duty["leave"][-1])
        return last

    def state(self, duty, day):
        if duty["closed"] is not None:
            return duty["closed"]
        if duty["start"] is None:
            return "waiting"
        last = self.last(duty)
        grace = self.duty_rules[duty["name"]][2]
        if last is None or day <= last:
            return "open"
        if grace is None or day - last <= grace:
            return "overdue"
        return "lapsed"

    def touching(self, stay, cause, party):
        return stay[0] == "all" or (stay[0], stay[1]) in (("cause", cause), ("party", party))

    def start(self, duty, cause, day):
        duty["start"] = day
        duty["under"] = [stay["number"] for stay in self.all_stays
                         if stay["stay"] is not None and self.touching(stay["stay"], cause, duty["party"])]

    def close(self, duty, word, number):
        duty["frozen"] = self.last(duty)
        duty["closed"] = word
        duty["by"] = number

    def need(self, cause, word, name, day):
        if word == "filed":
            return name in [kind for _, kind in self.filed[cause]]
        if word == "free":
            return name not in [kind for _, kind in self.filed[cause]]
        states = [self.state(duty, day) for duty in self.duties[cause] if duty["name"] == name]
        if word == "done":
            return "done" in states or "late" in states
        return word in states

    def play(self, number, day, deed):
        word = deed[0]
        if word == "stay":
            stay = (deed[1], deed[2], day, None, deed[3])
            for cause, duties in self.duties.items():
                for duty in duties:
                    if self.touching(stay, cause, duty["party"]) and self.state(duty, day) == "open":
                        duty["under"].append(number)
            self.all_stays.append({"number": number, "stay": stay})
            return "stands"
        if word == "lift":
            for stay in self.all_stays:
                told = stay["stay"]
                if stay["number"] == deed[1] and told is not None and told[3] is None:
                    stay["stay"] = told[:3] + (day,) + told[4:] if day > told[2] else None
                    return "stands"
            return "nostay"
        cause = deed[1]
        if word == "begin":
            if cause in self.begun:
                return "twice"
            self.begun[cause] = dict(deed[2] + (("court", "court"),))
            self.over[cause] = False
            self.filed[cause] = []
            self.duties[cause] = []
            return "stands"
        if cause not in self.begun:
            return "absent"
        if self.over[cause]:
            return "ended"
        if deed[2] not in self.begun[cause]:
            return "stranger"
        if word == "file":
            return self.file(number, day, cause, deed[2], self.kind_rules[deed[3]])
        wanted = ("waiting",) if word == "served" else ("open", "overdue")
        found = [duty for duty in self.duties[cause]
                 if duty["party"] == deed[2] and duty["name"] == deed[3] and self.state(duty, day) in wanted]
        if not found:
            return "noduty"
        assert len(found) == 1
        if word == "served":
            self.start(found[0], cause, day)
            return "stands"
        last = self.last(found[0])
        if last is None or deed[4] <= last:
            return "short"
        found[0]["leave"].append(deed[4])
        return "stands"

    def file(self, number, day, cause, party, rule):
        kind, roles, needs, does, opens, _, ends = rule
        if self.begun[cause][party] not in roles:
            return "role"
        if any(kind in self.kind_rules[other][5] for _, other in self.filed[cause]):
            return "barred"
        if not all(self.need(cause, word, name, day) for word, name in needs):
            return "needs"
        for duty in self.duties[cause]:
            if duty["party"] == party and duty["name"] in does:
                state = self.state(duty, day)
                if state in LIVE:
                    self.close(duty, "late" if state == "overdue" else "done", number)
        for name, role in opens:
            for other, its_role in sorted(self.begun[cause].items()):
                if (role == "" and other != party) or (role != "" and its_role != role):
                    continue
                if any(duty["party"] == other and duty["name"] == name and self.state(duty, day) in LIVE
                       for duty in self.duties[cause]):
                    continue
                duty = {"opened": number, "party": other, "name": name, "start": None, "under": [], "leave": [],
                        "closed": None, "by": None}
                self.duties[cause].append(duty)
                if other in (party, "court"):
                    self.start(duty, cause, day)
        self.filed[cause].append((number, kind))
        if ends:
            self.over[cause] = True
            for duty in self.duties[cause]:
                if self.state(duty, day) in LIVE:
                    self.close(duty, "void", number)
        return "stands"

    def duty_rows(self, cause, day, order):
        found = []
        for duty in self.duties[cause]:
            row = (duty["opened"], duty["party"], duty["name"], self.state(duty, day), duty["start"], self.last(duty),
                   duty["by"])
            found.append((order.index(duty["opened"]), duty["party"], duty["name"], row))
        return [row for _, _, _, row in sorted(found, key=lambda told: told[:3])]

    def stays(self):
        return [stay["stay"] for stay in self.all_stays if stay["stay"] is not None]


def court(book, regimes, entries, d, k):
    """The court behind the rows of a day, with their words and their order."""
    told = Court(book, regimes)
    words = []
    for number, day in rows(entries, k):
        if day <= d:
            words.append((number, told.play(number, day, entries[number][3])))
    return told, words
