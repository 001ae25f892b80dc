"""How the heads of a matter stand, and the moves by which this changes."""

from docketloom.almanac import is_up_to
from docketloom.days import check_day
from docketloom.errors import Malformed, NotThere, OutOfRange, Refused
from docketloom.names import is_name, is_number, is_one_of, is_tuple

WORDS = ("appeal", "judge", "send")


class Clock:
    """Which acts are in time, by the terms of a ladder under the stays of a matter."""

    def __init__(self, ladder, almanac, stayed):
        self._words = ladder[0]
        self._answer = ladder[1]
        self._almanac = almanac
        self._stayed = stayed

    def last(self, word, start):
        """The last day of a term; None if it stands still or has none: then each day from its start on is in time."""
        try:
            return self._almanac.last(self._stayed, start, word)
        except NotThere:
            return None

    def appeal_ends(self, level, start):
        """The last day, or None, of an appeal from a level."""
        return self.last(self._words[level], start)

    def answer_ends(self, start):
        """The last day, or None, of an answering appeal."""
        return self.last(self._answer, start)


class Standing:
    """How one head stands."""

    def __init__(self, level, result, day, sent, before):
        self.level = level
        # The result and the day of the judgment, or None while the head waits.
        self.result = result
        self.day = day
        self.sent = sent
        # The result with which a head was judged last, and not sent back since; or None.
        self.before = before


class Course:
    """The heads of a matter behind the moves that were made."""

    def __init__(self, top, sends, heads, allowances, clock):
        self.top = top
        self.sends = sends
        self.heads = heads
        self.clock = clock
        self.allowed = list(allowances)
        self.made = []
        self.standings = {head: Standing(0, None, None, 0, None) for head, _, _ in heads}
        # The appeals that were filed: tuples (head, level, side, day).
        self.filed = []

    def twin(self):
        """Another course that stands as this one does."""
        other = Course(self.top, self.sends, self.heads, self.allowed, self.clock)
        other.made = list(self.made)
        other.standings = {head: Standing(held.level, held.result, held.day, held.sent, held.before)
                           for head, held in self.standings.items()}
        other.filed = list(self.filed)
        return other

    def check_move_day(self, day):
        """Raises OutOfRange if the value is no day, or before the day of the last move."""
        check_day(day)
        if len(self.made) > 0 and day < self.made[-1][0]:
            raise OutOfRange("before the last move")

    def standing(self, head):
        """How a head stands. Raises NotThere."""
        if head not in self.standings:
            raise NotThere("no such head")
        return self.standings[head]

    def judge(self, day, head, result):
        """Judges a head, and returns the word of the judgment."""
        self.check_move_day(day)
        if not is_number(result, 0, 1):
            raise Malformed("no result")
        held = self.standing(head)
        if held.result is not None:
            raise Refused("the head does not wait")
        word = "judged"
        if held.before is not None:
            word = "affirmed" if held.before == result else "turned"
        held.result = result
        held.before = result
        held.day = day
        self.made.append((day, "judge", head, result))
        return word

    def appeal(self, day, head):
        """Appeals a head, and returns the side that appeals."""
        if self.appeal_word(day, head) == "":
            raise Refused("no appeal may be filed")
        held = self.standings[head]
        side = 1 - held.result
        self.filed.append((head, held.level, side, day))
        self.allowed[side] -= 1
        held.level += 1
        held.result = None
        held.day = None
        self.made.append((day, "appeal", head, None))
        return side

    def appeal_word(self, day, head):
        """Why a head may be appealed on the day: "time" or "answer"; "" if it may not."""
        self.check_move_day(day)
        held = self.standing(head)
        if held.result is None or held.level >= self.top or self.allowed[1 - held.result] == 0:
            return ""
        return self.time_word(day, head, held)

    def time_word(self, day, head, held):
        """By which term an appeal of a head that is judged below the top is in time on the day; "" if by none."""
        # No move is made ahead of the last one, so the day is not before any start.
        if is_up_to(day, self.clock.appeal_ends(held.level, held.day)):
            return "time"
        if any([is_up_to(day, self.clock.answer_ends(start)) for start in self.answer_starts(head, held)]):
            return "answer"
        return ""

    def answer_starts(self, head, held):
        """The days on which the side that won a judged head appealed another head from its level."""
        return [start for other, level, side, start in self.filed
                if other != head and level == held.level and side == held.result and start >= held.day]

    def send(self, day, head):
        """Sends a head back."""
        self.check_move_day(day)
        held = self.standing(head)
        if held.result is not None or held.level == 0 or held.sent >= self.sends:
            raise Refused("the head may not be sent back")
        held.level -= 1
        held.sent += 1
        held.before = None
        self.made.append((day, "send", head, None))

    def ending(self):
        """The tuple of the values of all heads, in their order."""
        return values_of(self.heads, [self.standings[head].result for head, _, _ in self.heads])

    def waits(self):
        """True if some head waits."""
        return any([held.result is None for held in self.standings.values()])

    def make(self, move):
        """Makes a move that is told as a tuple; raises Malformed if the value, of any kind, is no such tuple."""
        if not is_tuple(move, 4, 4) or not is_one_of(move[1], WORDS) or not is_name(move[2]):
            raise Malformed("no move")
        day, word, head, result = move
        if word == "judge":
            self.judge(day, head, result)
        elif result is not None:
            raise Malformed("only a judgment has a result")
        elif word == "appeal":
            self.appeal(day, head)
        else:
            self.send(day, head)


def values_of(heads, results):
    """The tuple of the values of heads with these results; the result of a head that waits is None."""
    found = []
    by_head = {"": 0}
    for (head, parent, named), result in zip(heads, results):
        by_head[head] = result if by_head[parent] == named else None
        found.append(by_head[head])
    return tuple(found)
