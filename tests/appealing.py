"""Matters another way: the moves that were made are all that is kept, and each question goes through them again."""

import plain


class Slow:
    def __init__(self, ladder, heads, allowances, regimes, stays):
        self.terms, self.answer, self.sends = ladder
        self.heads = heads
        self.allowances = allowances
        self.stays = stays
        self.regimes = plain.Regimes(regimes)
        self.lasts = {}

    def in_time(self, word, start, day):
        if (word, start) not in self.lasts:
            try:
                self.lasts[word, start] = self.regimes.last(self.stays, start, word)
            except plain.NoLastDay:
                self.lasts[word, start] = None
        last = self.lasts[word, start]
        return start <= day and (last is None or day <= last)

    def head(self, moves, head):
        """The level, the result and the day of the judgment, the times sent back, the result to compare with."""
        level, result, day, sent, ahead = 0, None, None, 0, None
        for when, word, other, told in moves:
            if other != head:
                continue
            if word == "judge":
                result, day, ahead = told, when, told
            elif word == "appeal":
                level, result, day = level + 1, None, None
            else:
                level, sent, ahead = level - 1, sent + 1, None
        return level, result, day, sent, ahead

    def filed(self, moves):
        """The appeals: head, level, side and day."""
        found = []
        for at, (day, word, head, _) in enumerate(moves):
            if word == "appeal":
                level, result, _, _, _ = self.head(moves[:at], head)
                found.append((head, level, 1 - result, day))
        return found

    def left(self, moves):
        sides = [side for _, _, side, _ in self.filed(moves)]
        return (self.allowances[0] - sides.count(0), self.allowances[1] - sides.count(1))

    def can_appeal(self, moves, day, head):
        level, result, judged, _, _ = self.head(moves, head)
        if result is None or level == len(self.terms) or self.left(moves)[1 - result] == 0:
            return ""
        if self.in_time(self.terms[level], judged, day):
            return "time"
        for other, its_level, side, when in self.filed(moves):
            if other != head and its_level == level and side == result and when >= judged:
                if self.in_time(self.answer, when, day):
                    return "answer"
        return ""

    def next_moves(self, moves, day):
        """All moves that may be made on the day."""
        found = []
        for head, _, _ in self.heads:
            level, result, _, sent, _ = self.head(moves, head)
            if result is None:
                found += [(day, "judge", head, 0), (day, "judge", head, 1)]
                if level > 0 and sent < self.sends:
                    found.append((day, "send", head, None))
            elif self.can_appeal(moves, day, head):
                found.append((day, "appeal", head, None))
        return found

    def values(self, moves):
        found = {}
        for head, parent, named in self.heads:
            result = self.head(moves, head)[1]
            if parent and (found[parent] is None or found[parent] != named):
                result = None
            found[head] = result
        return tuple(found[head] for head, _, _ in self.heads)

    def waits(self, moves):
        return any(self.head(moves, head)[1] is None for head, _, _ in self.heads)

    def key(self, moves):
        """What matters for all that follows."""
        return (tuple(self.head(moves, head)[:4] for head, _, _ in self.heads), self.left(moves),
                tuple(sorted(set(self.filed(moves)))))

    def endings(self, moves, days):
        """Each ending with its price, by a search over all ways whose moves are made on these days."""
        layer = [(list(moves), 0)]
        seen = {(self.key(moves), 0)}
        found = {}
        price = 0
        while layer:
            behind = []
            while layer:
                course, at = layer.pop()
                if not self.waits(course):
                    found.setdefault(self.values(course), price)
                for later in range(at, len(days)):
                    for move in self.next_moves(course, days[later]):
                        further = course + [move]
                        key = (self.key(further), later)
                        if key not in seen:
                            seen.add(key)
                            (behind if move[1] == "appeal" else layer).append((further, later))
            layer = behind
            price += 1
        return found


def matter(dice, most_heads=4, tops=(1, 2, 3), allowances=(0, 1, 2)):
    """A ladder, heads and allowances."""
    names = ("costs", "debt", "fine", "rent")
    heads = []
    for at in range(dice.randint(1, most_heads)):
        parent = dice.choice([""] + [head for head, _, _ in heads])
        heads.append((names[at], parent, dice.randint(0, 1) if parent else 0))
    terms = tuple(dice.choice(("month", "week")) for _ in range(dice.choice(tops)))
    return ((terms, dice.choice(("month", "week")), dice.randint(0, 1)), tuple(heads),
            (dice.choice(allowances), dice.choice(allowances)))


def moves(dice, slow, near, many):
    """Random moves that may be made."""
    found = []
    day = near
    for _ in range(many):
        day += dice.choice((0, 0, 0, 1, 3, 9))
        told = slow.next_moves(found, day)
        rare = [move for move in told if move[1] != "judge"]
        if told:
            found.append(dice.choice(rare if rare and dice.random() < 0.6 else told))
    return found
