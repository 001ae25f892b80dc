"""All ways in which a matter can go on from a day, told shortly.

A head that waits can be judged either way at the end, at no price; it is judged ahead of that only to be appealed at
once. So a matter goes on by steps: a head is sent back, or is appealed (a free one, which waits, is judged for this
against the side that appeals). What can come out hangs only on which heads are free in the end.
"""

from docketloom.courts import values_of

# In a state of the outlook, this stands for a head that is judged and was not touched.
KEPT = -1


class Outlook:
    """The states that follow from a matter, and the least numbers of appeals with which heads come free."""

    def __init__(self, course, day):
        self._top = course.top
        self._sends = course.sends
        self._heads = course.heads
        self._held = [course.standings[head] for head, _, _ in course.heads]
        # Whether a head that is judged below the top can be appealed in time on the day, but for answering appeals to
        # come.
        self._in_time = [held.result is not None and held.level < course.top
                         and course.time_word(day, head, held) != ""
                         for (head, _, _), held in zip(course.heads, self._held)]
        codes = tuple([KEPT if held.result is not None else 2 * held.level + held.sent for held in self._held])
        first = (codes, course.allowed[0], course.allowed[1], ())
        # How each state was found first: the state before it and the step.
        self._came = {first: None}
        # For each set of free heads, the least number of appeals and a state with it.
        self._least = {}
        layer = [first]
        price = 0
        while len(layer) > 0:
            layer = self._next_layer(layer, price)
            price += 1

    def _next_layer(self, layer, price):
        """The states that take one appeal more than those of a layer."""
        found = []
        states = list(layer)
        while len(states) > 0:
            state = states.pop(0)
            free = tuple([code != KEPT for code in state[0]])
            if free not in self._least:
                self._least[free] = (price, state)
            for step, behind in self._steps(state):
                if behind not in self._came:
                    self._came[behind] = (state, step)
                    if step[0] == "send":
                        states.append(behind)
                    else:
                        found.append(behind)
        return found

    def _steps(self, state):
        """The steps from a state, with the states behind them."""
        codes, left_of_0, left_of_1, opened = state
        left = (left_of_0, left_of_1)
        is_worth = self._is_worth(codes, left, opened)
        found = []
        for at, code in enumerate(codes):
            if code == KEPT:
                held = self._held[at]
                side = 1 - held.result
                if self._in_time[at] or (held.level, held.result) in opened:
                    self._add_appeal(found, state, at, held.level, held.sent, side)
            elif is_worth:
                level = code // 2
                sent = code - 2 * level
                if level > 0 and sent < self._sends:
                    found.append((("send", at, None), (replaced(codes, at, 2 * level - 1), left[0], left[1], opened)))
                if level < self._top:
                    self._add_appeal(found, state, at, level, sent, 0)
                    self._add_appeal(found, state, at, level, sent, 1)
        return found

    def _add_appeal(self, found, state, at, level, sent, side):
        """Adds the step by which a side appeals a head from a level, if it may still file an appeal."""
        codes, left_of_0, left_of_1, opened = state
        left = [left_of_0, left_of_1]
        if left[side] == 0:
            return
        left[side] -= 1
        further = opened if (level, side) in opened else tuple(sorted(opened + ((level, side),)))
        found.append((("appeal", at, side), (replaced(codes, at, 2 * level + 2 + sent), left[0], left[1], further)))

    def _is_worth(self, codes, left, opened):
        """True if an appeal of a free head could yet bring about an answering appeal of one that is out of time."""
        for code, held, in_time in zip(codes, self._held, self._in_time):
            if code == KEPT and held.level < self._top and not in_time and (held.level, held.result) not in opened:
                if left[0] > 0 and left[1] > 0:
                    return True
        return False

    def _outcomes(self, free):
        """The pairs of the results and the values, for all ways to judge the free heads."""
        found = [()]
        for is_free, held in zip(free, self._held):
            choices = (0, 1) if is_free else (held.result,)
            found = [results + (result,) for results in found for result in choices]
        return [(results, values_of(self._heads, results)) for results in found]

    def endings(self):
        """The endings, each with its price."""
        found = {}
        for free, (price, _) in self._least.items():
            for _, ending in self._outcomes(free):
                found[ending] = min(price, found.get(ending, price))
        return found

    def way(self, fits, day):
        """A cheapest way, all of whose moves are on the day, to an ending that fits; None if none does."""
        best = None
        for free, (price, state) in self._least.items():
            if best is None or price < best[0]:
                for results, ending in self._outcomes(free):
                    if fits(ending):
                        best = (price, state, results)
        return None if best is None else self._told(best[1], best[2], day)

    def _told(self, state, results, day):
        """The way to a state, and with the last judgments to these results."""
        steps = []
        came = self._came[state]
        while came is not None:
            steps.append((came[0], came[1]))
            came = self._came[came[0]]
        way = []
        for before, (word, at, side) in reversed(steps):
            head = self._heads[at][0]
            if word == "appeal" and before[0][at] != KEPT:
                way.append((day, "judge", head, 1 - side))
            way.append((day, word, head, None))
        for (head, _, _), code, result in zip(self._heads, state[0], results):
            if code != KEPT:
                way.append((day, "judge", head, result))
        return way


def replaced(codes, at, code):
    """The codes with another one at an index."""
    return codes[:at] + (code,) + codes[at + 1:]
