"""Matters: heads that are judged, appealed and sent back."""

from docketloom.almanac import Almanac
from docketloom.courts import Clock, Course
from docketloom.errors import Malformed, NotThere
from docketloom.levels import is_allowances, is_heads, is_ladder, top
from docketloom.regimes import is_regimes
from docketloom.stays import is_stays, union_of


def check_rules(ladder, regimes):
    """Raises NotThere if a regime has no rule for a word of the ladder."""
    for _, (_, rules) in regimes[1]:
        words = [word for word, _ in rules]
        if not all(word in words for word in ladder[0] + (ladder[1],)):
            raise NotThere("a regime has no rule for a term of the ladder")


class Matter:
    """The heads of a cause, with all moves that are made in it."""

    def __init__(self, ladder, heads, allowances, regimes, stays):
        if not is_ladder(ladder):
            raise Malformed("no ladder")
        if not is_heads(heads):
            raise Malformed("no heads")
        if not is_allowances(allowances):
            raise Malformed("no allowances")
        if not is_regimes(regimes):
            raise Malformed("no regimes")
        if not is_stays(stays):
            raise Malformed("no stays")
        check_rules(ladder, regimes)
        self.ladder = ladder
        self.heads = heads
        self.allowances = allowances
        self.regimes = regimes
        self.stays = stays
        clock = Clock(ladder, Almanac(regimes), union_of(stays))
        self.course = Course(top(ladder), ladder[2], heads, allowances, clock)

    def judge(self, day, head, result):
        """Judges a head, and returns the word of the judgment."""
        return self.course.judge(day, head, result)

    def appeal(self, day, head):
        """Appeals a head, and returns the side that appeals."""
        return self.course.appeal(day, head)

    def send(self, day, head):
        """Sends a head back."""
        self.course.send(day, head)

    def moves(self):
        """The list of the moves that were made."""
        return list(self.course.made)

    def state(self, head):
        """The tuple of the level, the word, the result, the day and the times sent back of a head."""
        held = self.course.standing(head)
        word = "waits" if held.result is None else "judged"
        return (held.level, word, held.result, held.day, held.sent)

    def left(self):
        """The pair of the numbers of appeals that the sides may still file."""
        return (self.course.allowed[0], self.course.allowed[1])

    def value(self, head):
        """The value of a head."""
        self.course.standing(head)
        names = [name for name, _, _ in self.heads]
        return self.course.ending()[names.index(head)]

    def can_appeal(self, day, head):
        """Why the head may be appealed on the day: "time" or "answer"; "" if it may not."""
        return self.course.appeal_word(day, head)


def matter_of(ladder, heads, allowances, regimes, stays, moves):
    """A matter in which the moves of a list have been made."""
    matter = Matter(ladder, heads, allowances, regimes, stays)
    for move in moves:
        matter.course.make(move)
    return matter
