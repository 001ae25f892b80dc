"""What holds over the whole program: nothing that is passed is changed, nothing that is returned is kept."""

import copy
import random
import unittest

from bureau import FIRST_DEEDS, Slow, likely_deed, random_charter
from docketloom import answers, books, bounds, courses, demand, games, judge, least, notices, pledges, proofs, rolls, scripts, service
from docketloom.errors import DocketError
from docketloom.office import Office, office_of
from odd import same
from promising import random_course
from serving import random_calendar, random_events, random_manner, random_powers

PROMISE = bounds.Promise(2, [((0, 1), 1, 1, 2), ((1,), 1, 1, 2)], (1, 3))
LOST = bounds.Promise(1, [((0,), 0, 1, 1)], (1, 2))
EVERY = ((0, 1, 2, 3, 4, 5, 6), 0, 9, ())
BENCH = ((("ann", ("claim", "debt"), EVERY), ("bob", ("debt",), EVERY)), ())
PLEDGE = ((("claim", 1, 1, 2), ("debt", 1, 1, 2)), (1, 3))


def spoil(value):
    """Changes all lists and dicts of an answer, at each depth."""
    if isinstance(value, (list, tuple)):
        for item in value:
            spoil(item)
    if isinstance(value, (list, dict)):
        value.clear()


class Whole(unittest.TestCase):
    def check(self, ask, *values):
        """Asks twice, with the answer spoilt in between; the values are to stay as they are."""
        kept = copy.deepcopy([value for value in values if not isinstance(value, (bounds.Promise, Office))])
        first = self.answer(ask, values)
        told = copy.deepcopy(first)
        spoil(first)
        self.assertTrue(same(self.answer(ask, values), told) or self.answer(ask, values) == told, ask.__name__)
        self.assertEqual([value for value in values if not isinstance(value, (bounds.Promise, Office))], kept)

    def answer(self, ask, values):
        try:
            return ask(*values)
        except DocketError as error:
            return type(error)

    def test_promises(self):
        course = random_course(random.Random(1), PROMISE, 9)
        book, trap = books.made_book(PROMISE), books.made_trap(LOST)
        start = bounds.start_state(PROMISE)
        move = course[0]
        kinds = [((0, 1), 1, 1, 2)]
        promise = bounds.Promise(2, kinds, (0, 1))
        kinds.clear()
        self.assertEqual(promise.kinds, (((0, 1), 1, 1, 2),))
        self.check(bounds.is_within, PROMISE, course)
        self.check(bounds.moves, PROMISE, start)
        for ask in (courses.filed_rows, courses.dealings, courses.earliest_first):
            self.check(ask, PROMISE, start, move)
        dealer = books.deal_by(PROMISE, book, course)
        self.check(courses.run_course, PROMISE, course, dealer)
        for ask in (games.reached, games.lost_states, games.can_keep, books.made_book, books.made_trap):
            self.check(ask, PROMISE)
            self.check(ask, LOST)
        self.check(books.closes, PROMISE, book)
        self.check(books.shuts, LOST, trap)
        self.check(books.deal_by, PROMISE, book, course)
        self.check(books.spring, LOST, trap, [3, -1])
        self.check(demand.burst, promise, 9)
        self.check(least.shortest_term, PROMISE, 0)

    def test_pledges(self):
        filings = [("b", "claim", 3), ("a", "debt", 4), ("c", "claim", 8)]
        days = pledges.court_days(((5, 6), (), (), ()), 2, 9)
        promise = pledges.promise_of(PLEDGE, BENCH)
        book = books.made_book(promise)
        dealings = books.deal_by(promise, book, pledges.course_of(PLEDGE, BENCH, filings, days))
        roll = rolls.roll_by(PLEDGE, BENCH, filings, days, dealings)
        self.check(pledges.court_days, ((5, 6), (), (), ()), 2, 9)
        self.check(pledges.counted, filings, days)
        self.check(pledges.is_filings, PLEDGE, filings)
        self.check(pledges.course_of, PLEDGE, BENCH, filings, days)
        self.check(rolls.roll_by, PLEDGE, BENCH, filings, days, dealings)
        self.check(rolls.is_sound, PLEDGE, BENCH, filings, days, roll)
        self.check(rolls.forfeits, PLEDGE, BENCH, filings, days, [])
        self.check(rolls.dealt_roll, PLEDGE, BENCH, filings, days, book)

    def test_service(self):
        dice = random.Random(2)
        for _ in range(20):
            asked = (random_calendar(dice), random_manner(dice), random_powers(dice, 5))
            events = random_events(dice, 8)
            self.check(service.agents, asked[2], "ann", 5, 4)
            self.check(service.served_on, *asked, "ann", events)
            self.check(service.all_served, *asked, ["ann", "bob", "ann"], events)
            self.check(service.unserved, *asked, ["bob", "ann"], events, 9)
            self.check(proofs.made_proof, *asked, "ann", events)

    def test_offices(self):
        dice = random.Random(3)
        for _ in range(25):
            charter = random_charter(dice)
            office, slow = Office(charter), Slow(charter)
            for step in range(30):
                deed = FIRST_DEEDS[step] if step < len(FIRST_DEEDS) else likely_deed(dice, slow)
                if slow.fault(deed) is None:
                    office.do(deed)
                    slow.take(deed)
            k = dice.randint(5, slow.day)
            log = office.log()
            for ask, asked in ((office.log, ()), (office.today, ()), (office.judge_for, ("one",)), (office.served, (1, "bob", k)), (office.judgment, ("one", k)),
                               (office.order, ("one", k)), (office.turn, ("one", 5, k)), (office.fees, ("one", k)), (office.hearings, (k, k))):
                self.check(ask, *asked)
            for question in (("duty", "one", 1, "bob", "answer", k, k), ("served", 1, "bob", k), ("may", "one", "debt", 1, k), ("open", "one", "debt", k),
                             ("full", k, "one", 16, 0, 2, k)):
                self.check(answers.certify, office, question)
                certificate = self.answer(answers.certify, (office, question))
                if isinstance(certificate, tuple):
                    self.check(judge.holds, charter, log, certificate)
            self.check(notices.notices, office, 30)
            self.check(notices.lying_still, office)
            self.check(notices.surprises, office, k)
            self.check(scripts.log_text, log)
            self.check(scripts.log_of, scripts.log_text(log))
            office.as_of(k).do(("pass", k + 1))
            matter = self.answer(office.matter, ("one", k))
            if not isinstance(matter, type):
                matter.made = None
                matter.course.standings.clear()
            self.assertEqual(office.log(), log)
            again = office_of(charter, log)
            log.clear()
            self.assertEqual(again.log(), office.log())


if __name__ == "__main__":
    unittest.main()
