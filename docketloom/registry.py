"""What an office keeps, and what of it is known on a day."""

from docketloom.appeals import Matter
from docketloom.courts import Clock, Course
from docketloom.docket import Docket
from docketloom.errors import NotThere, Refused
from docketloom.levels import top
from docketloom.papers import Papers
from docketloom.playing import Playing
from docketloom.records import Lists
from docketloom.stays import union_of
from docketloom.wheels import full_state


class Registry:
    """The docket of an office with its causes, papers and lists. A day k is one that is not later than today."""

    def __init__(self, charter):
        book, regimes, manner, powers, ladder, fees, rule, wheel, bench = charter
        self.ladder = ladder
        self.fee_book = fees
        self.cost_rule = rule
        self.wheel = wheel
        self.bench = bench
        self.day_now = 0
        self.court_docket = Docket(book, regimes)
        # The numbers of the entries that the office has made by itself.
        self.own = []
        # The cards that are left on the wheel.
        self.cards = full_state(wheel)
        self.records = {}
        self.papers = Papers(regimes, manner, powers)
        self.lists = Lists()
        self._now = Playing(self.court_docket)
        self._then = Playing(self.court_docket)

    def filing(self, number, k):
        """The entry of a filing that was entered up to the day k. Raises NotThere."""
        entry = self.court_docket.entry(number)
        if entry[3][0] != "file" or entry[1] > k:
            raise NotThere("no such filing")
        return entry

    def record(self, cause, k):
        """The cause that was begun by a deed up to the day k. Raises NotThere."""
        record = self.records.get(cause)
        if record is None or record.begun > k:
            raise NotThere("the cause was not begun")
        return record

    def record_with_heads(self, cause, k):
        """The cause that was begun and got heads by deeds up to the day k. Raises NotThere."""
        record = self.record(cause, k)
        if not record.has_heads(k):
            raise NotThere("the cause has no heads")
        return record

    def rows(self, k):
        """The list of the rows known on k whose days are not later than k."""
        return [row for row in self.court_docket.rows(k) if row[1] <= k]

    def scene_on(self, k):
        """The scene behind the rows known on k whose days are not later than k; it is to be read only."""
        play = self._then if k < self.day_now else self._now
        play.go_on(self.rows(k))
        return play.stage

    def served(self, number, party, k):
        """The day on which the paper of a filing is served as known on k, or None. Raises NotThere."""
        entered = self.filing(number, k)[1]
        return self.papers.serving(entered).known_on(party, self.papers.events(number, party, k), k)

    def stays_of(self, cause, k):
        """The stays that touch the cause, as known on k."""
        return tuple([stay for stay in self.scene_on(k).stays() if stay[0] == "all" or stay[:2] == ("cause", cause)])

    def course_of(self, cause, k):
        """The course of the heads of a cause as known on k. Raises NotThere."""
        record = self.record_with_heads(cause, k)
        clock = Clock(self.ladder, self.court_docket.almanac, union_of(self.stays_of(cause, k)))
        course = Course(top(self.ladder), self.ladder[2], record.heads, record.allowances, clock)
        make_all(course, record.moves(k))
        return course

    def matter(self, cause, k):
        """The matter of a cause as known on k. Raises NotThere."""
        record = self.record_with_heads(cause, k)
        regimes = self.court_docket.regimes
        matter = Matter(self.ladder, record.heads, record.allowances, regimes, self.stays_of(cause, k))
        make_all(matter.course, record.moves(k))
        return matter

    def judgment(self, cause, k):
        """The judgment of a cause as known on k. Raises NotThere."""
        sides = self.record_with_heads(cause, k).sides
        course = self.course_of(cause, k)
        values = [(head, value) for (head, _, _), value in zip(course.heads, course.ending()) if value is not None]
        return tuple(sorted([(head, sides[value], sides[1 - value]) for head, value in values]))

    def least_waiting(self, day):
        """The least duty that waits though its paper is served, as known on the day: its day and deed; or None."""
        papers = self.papers.served(day)
        waiting = self.waiting_duties(day) if len(papers) > 0 else {}
        for number, party, served in papers:
            if (number, party) in waiting:
                cause, duty = waiting[(number, party)]
                rows = {other: told for other, told in self.rows(day)}
                return (max(served, rows[number]), ("served", cause, party, duty))
        return None

    def waiting_duties(self, day):
        """For each filing and party, as known on the day: the cause and the least duty of all that wait."""
        stage = self.scene_on(day)
        found = {}
        for cause in stage.causes():
            for opened, party, duty, state, _, _, _ in stage.duties(cause, day):
                if state == "waiting":
                    key = (opened, party)
                    found[key] = min((cause, duty), found.get(key, (cause, duty)))
        return found

    def settle(self, day):
        """Enters what the papers that are served as known on the day ask for, as if this day were today."""
        waiting = self.least_waiting(day)
        while waiting is not None:
            self.own.append(self.court_docket.enter(day, waiting[0], waiting[1]))
            waiting = self.least_waiting(day)

    def cut(self, many):
        """Takes all entries but the first ones back."""
        self.court_docket.cut(many)
        self.own = [number for number in self.own if number < many]
        # Rows of these numbers may come to be others.
        self._now = Playing(self.court_docket)
        self._then = Playing(self.court_docket)


def make_all(course, moves):
    """Makes moves in order, but for those that may not be made."""
    for move in moves:
        try:
            course.make(move)
        except Refused:
            continue
