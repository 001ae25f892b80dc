"""Points 185 to 197: charters, deeds, the office, and what it tells as known on each day."""

import itertools
import random
import unittest

from bureau import BOOK, CAUSES, EVERY, FEES, FIRST_DEEDS, HEADS, LATER, PARTIES, RULES, Slow, likely_deed, random_charter, random_deed
from docketloom.charter import is_charter, is_office_deed
from docketloom.errors import DocketError, Malformed, NotThere, OutOfRange, Refused, TooMuch
from docketloom.office import Office, office_of
from docketloom.placing import lack
from odd import ODD, is_plain, mutants, same

CALENDAR = ((5, 6), (), (), ())
MANNER = (3, 2, 1, 10, 2)
POWERS = (("bob", "law", 0, None, True),)
LADDER = (("five", "two"), "two", 1)
RULE = ("loser", (1, 1))
WHEEL = (("ann", 2), ("bea", 1))
BENCH = ((("ann", ("claim",), (EVERY, 0, 8, ())), ("bea", (), (EVERY, 2, 16, ())), ("cid", (), (EVERY, 0, 16, ()))),
         (("hall", (EVERY, 0, 16, ())),))
CHARTER = (BOOK, ("old", ((0, (CALENDAR, RULES)),)), MANNER, POWERS, LADDER, ("new", FEES[1]), RULE, WHEEL, BENCH)
ROLES = (("bob", "defendant"), ("dan", "defendant"), ("pam", "plaintiff"))
DEEDS = (
    ("pass", 7), ("begin", 7, "one", ROLES, 900, ("ann",), 5), ("file", 7, "one", "pam", "claim"),
    ("leave", 7, "one", "bob", "answer", 9), ("stay", 7, "cause", "one", "rests"), ("stay", 7, "all", "", "anew"),
    ("lift", 7, 4), ("strike", 3), ("amend", 2, 6), ("event", 1, "bob", "hand", "law"),
    ("heads", "one", HEADS[2], ("bob", "pam"), (2, 0)), ("judge", "one", "debt", 1), ("appeal", "one", "debt"),
    ("send", "one", "debt"), ("expense", "one", "pam", 70, ("costs", "debt")), ("hearing", 8, "one", 3, 0, 9), ("unlist", 8, "one"))


def attempt(ask):
    """What is answered, or the class of the error."""
    try:
        return ask()
    except DocketError as error:
        return type(error)


def office_with(*deeds):
    office = Office(CHARTER)
    for deed in (("pass", 7), ("begin", 7, "one", ROLES, 900, (), 0)) + deeds:
        office.do(deed)
    return office


def told_by(office):
    """All that is kept: today, the log, the entries."""
    return (office.today(), office.log(), office.docket().entries())


class Values(unittest.TestCase):
    def test_charters(self):
        self.assertIs(is_charter(CHARTER), True)
        dice = random.Random(185)
        for _ in range(20):
            self.assertIs(is_charter(random_charter(dice)), True)
        for at, part in enumerate(CHARTER):
            for value in ODD:
                self.assertIs(is_charter(CHARTER[:at] + (value,) + CHARTER[at + 1:]), at == 3 and same(value, ()))
            self.assertIs(is_charter(CHARTER[:at] + CHARTER[at + 1:]), False)
            self.assertIs(is_charter(CHARTER[:at] + (list(part),) + CHARTER[at + 1:]), False)
            for other in range(at + 1, 9):
                changed = list(CHARTER)
                changed[at], changed[other] = changed[other], changed[at]
                self.assertIs(is_charter(tuple(changed)), False)
        for value in ODD + [list(CHARTER), CHARTER + ((),)]:
            self.assertIs(is_charter(value), False)
            with self.assertRaises(Malformed):
                Office(value)

    def test_rules_and_judges(self):
        # Each word of a duty or of the ladder has its rule in each regime.
        for words, good in ((("five", "month", "two"), True), (("five", "month"), False), (("five", "two"), False),
                            (("month", "two"), False), (("five", "month", "never", "two"), True)):
            rules = tuple(row for row in RULES if row[0] in words)
            later = tuple(row for row in LATER if row[0] in words)
            for pairs in (((0, (CALENDAR, rules)),), ((0, (CALENDAR, RULES)), (5, (CALENDAR, later)))):
                self.assertIs(is_charter(CHARTER[:1] + (("old", pairs),) + CHARTER[2:]), good)
        for ladder, good in (((("never",), "never", 0), True), ((("none",), "two", 0), False), ((("two",), "none", 0), False),
                             ((("two", "none"), "two", 0), False)):
            self.assertIs(is_charter(CHARTER[:4] + (ladder,) + CHARTER[5:]), good)
        for wheel, good in (((("cid", 1),), True), ((("dan", 1),), False), ((("ann", 1), ("zoe", 1)), False)):
            self.assertIs(is_charter(CHARTER[:7] + (wheel, BENCH)), good)
        self.assertIs(is_charter(CHARTER[:8] + ((BENCH[0][1:], BENCH[1]),)), False)

    def test_deeds(self):
        for deed in DEEDS:
            self.assertIs(is_office_deed(deed), True, deed)
            for value in mutants(deed):
                answer = is_office_deed(value)
                self.assertIn(answer, (True, False))
                if not is_plain(value):
                    self.assertIs(answer, False, value)
        for value in ODD + [(word,) for word in ODD if not isinstance(word, (list, dict, set))] + [("served", "one", "bob", "answer")]:
            self.assertIs(is_office_deed(value), False, value)

    def test_each_bound(self):
        begin, expense, hearing, heads = DEEDS[1], DEEDS[14], DEEDS[15], DEEDS[10]
        good = [("pass", 0), ("pass", 1000000), begin[:4] + (0, (), 0), begin[:4] + (10 ** 12, tuple("abcdef"), 10 ** 18),
                begin[:3] + ((),) + begin[4:], ("strike", 0), ("strike", 499), ("amend", 499, 1000000), expense[:3] + (1, ("a",)),
                expense[:3] + (10 ** 12, tuple("abcdef")), hearing[:3] + (1, 0, 1), hearing[:3] + (16, 15, 16),
                ("leave", 1000000, "a", "b", "c", 0), ("judge", "a", "b", 0), heads[:3] + (("b", "a"), (0, 2))]
        bad = [("pass", -1), ("pass", 1000001), begin[:4] + (-1, (), 0), begin[:4] + (10 ** 12 + 1, (), 0), begin[:4] + (0, tuple("abcdefg"), 0),
               begin[:4] + (0, (), -1), begin[:4] + (0, (), 10 ** 18 + 1), begin[:4] + (0, ("b", "a"), 0), begin[:4] + (0, ("a", "a"), 0),
               begin[:3] + ((("court", "judge"),),) + begin[4:], begin[:3] + (ROLES[::-1],) + begin[4:], ("strike", -1), ("strike", 500),
               ("amend", 500, 1), ("amend", 1, 1000001), ("lift", 1, 500), ("event", 500, "a", "try", "b"), ("event", 1, "a", "lost", "b"),
               expense[:3] + (0, ("a",)), expense[:3] + (10 ** 12 + 1, ("a",)), expense[:4] + ((),), expense[:4] + (tuple("abcdefg"),),
               expense[:4] + (("b", "a"),), hearing[:3] + (0, 0, 1), hearing[:3] + (17, 0, 16), hearing[:3] + (1, 1, 1), hearing[:3] + (1, 2, 1),
               hearing[:3] + (1, -1, 1), hearing[:3] + (1, 0, 17), ("leave", 1, "a", "b", "c", 1000001), ("judge", "a", "b", 2),
               ("judge", "a", "b", -1), ("judge", "a", "b", None), ("judge", "a", "b", True), heads[:3] + (("a", "a"), (0, 2)),
               heads[:3] + (("a",), (0, 2)), heads[:3] + (("a", "b"), (0, 3)), heads[:3] + (("a", "b", "c"), (0, 2)),
               ("heads", "one", (), ("a", "b"), (0, 0)), ("stay", 1, "all", "one", "rests"), ("stay", 1, "cause", "", "rests"),
               ("stay", 1, "cause", "one", "runs"), ("file", 1, "", "b", "c"), ("file", 1, "a", "b"), ("appeal", "a", "b", None),
               ("hearing", 1000001, "one", 3, 0, 9), ("unlist", -1, "one")]
        for deeds, told in ((good, True), (bad, False)):
            for deed in deeds:
                self.assertIs(is_office_deed(deed), told, deed)
        for value in ODD + bad:
            office = office_with()
            kept = told_by(office)
            with self.assertRaises(Malformed):
                office.do(value)
            self.assertEqual(told_by(office), kept)


class Drawn(unittest.TestCase):
    """Offices at random, held against one that goes on day by day."""

    def compare(self, office, slow, k):
        for cause in CAUSES:
            begun, headed = slow.begin_of(cause, k) is not None, slow.heads_of(cause, k) is not None
            for ask, told in ((office.judgment, slow.judgment), (office.order, slow.order)):
                self.assertTrue(same(attempt(lambda: ask(cause, k)), told(cause, k) if headed else NotThere))
            matter = attempt(lambda: office.matter(cause, k))
            if headed:
                told = slow.matter(cause, k)
                self.assertEqual((matter.moves(), matter.heads, matter.allowances, matter.stays, matter.ladder, matter.regimes),
                                 (told.moves(), told.heads, told.allowances, told.stays, told.ladder, told.regimes))
            else:
                self.assertIs(matter, NotThere)
            self.assertTrue(same(attempt(lambda: office.fees(cause, k)), slow.fees(cause, k) if begun else NotThere))
        for number, entered, _, deed in slow.docket.entries():
            for party in PARTIES[:2] + ("zoe",):
                told = slow.served(number, party, k) if deed[0] == "file" and entered <= k else NotThere
                self.assertTrue(same(attempt(lambda: office.served(number, party, k)), told))
        for day in range(max(0, k - 2), k + 3):
            self.assertTrue(same(office.hearings(day, k), slow.hearings(day, k)))

    def compare_turns(self, office, slow):
        for cause in CAUSES:
            days = [k for k in range(slow.day + 1) if slow.heads_of(cause, k) is not None]
            for k, m in zip(days, days[3:]):
                self.assertEqual(office.turn(cause, k, m), slow.turn(cause, k, m))
            # The first order and all turns behind it are the last order.
            if days:
                debts = office.order(cause, days[0])
                for k, m in zip(days, days[1:]):
                    debts = debts + office.turn(cause, k, m)
                sums = {}
                for one, other, amount in debts:
                    sums[one, other] = sums.get((one, other), 0) + amount
                    sums[other, one] = sums.get((other, one), 0) - amount
                told = sorted((one, other, amount) for (one, other), amount in sums.items() if amount > 0)
                self.assertEqual(told, office.order(cause, days[-1]))

    def drawn_office(self, dice, charter, first, most):
        office, slow = Office(charter), Slow(charter)
        for step in range(dice.randint(5, most)):
            deed = likely_deed(dice, slow) if dice.random() < 0.8 else random_deed(dice, slow)
            if first and step < len(FIRST_DEEDS):
                deed = FIRST_DEEDS[step]
            fault = slow.fault(deed)
            kept = told_by(office)
            answer = attempt(lambda: office.do(deed))
            if fault is None:
                self.assertTrue(same(answer, slow.take(deed)))
                self.done[deed[0]] = self.done.get(deed[0], 0) + 1
            else:
                self.assertIs(answer, fault, deed)
                self.assertEqual(told_by(office), kept)
                self.faults[deed[0], fault.__name__] = True
            self.assertTrue(same(told_by(office), (slow.day, slow.log, slow.docket.entries())))
        return office, slow

    def test_drawn_offices(self):
        dice = random.Random(190)
        self.done, self.faults = {}, {}
        own = 0
        for number in range(140):
            charter = random_charter(dice)
            office, slow = self.drawn_office(dice, charter, number % 4 > 0, 60)
            own += len(slow.own)
            for k in range(0, slow.day + 1, max(1, slow.day // 4)):
                self.compare(office, slow, k)
            self.compare_turns(office, slow)
            judges = slow.cards()[1]
            for cause in CAUSES:
                self.assertEqual(attempt(lambda: office.judge_for(cause)), judges.get(cause, NotThere))
            again = office_of(charter, office.log())
            self.assertTrue(same(told_by(again), told_by(office)))
            self.compare(again, slow, slow.day)
            k = dice.randint(0, slow.day)
            other = office.as_of(k)
            self.assertEqual(other.today(), k)
            for day in range(0, k + 1, max(1, k // 3)):
                self.compare(other, slow, day)
        self.assertGreater(own, 15)
        self.assertEqual(sorted(self.done), sorted({deed[0] for deed in DEEDS}))
        self.assertGreater(len(self.faults), 20)

    def test_as_of_goes_on_by_itself(self):
        dice = random.Random(196)
        self.done, self.faults = {}, {}
        for _ in range(25):
            charter = random_charter(dice)
            office, slow = self.drawn_office(dice, charter, True, 30)
            k = dice.randint(0, slow.day)
            other = office.as_of(k)
            known = [entry for entry in office.docket().entries() if entry[1] <= k]
            self.assertEqual(other.docket().entries(), known)
            # It has done the deeds up to k, and perhaps one pass to k.
            told = [(day, deed) for day, deed in office.log() if day <= k and not (deed[0] == "pass" and deed[1] > k)]
            self.assertEqual(other.log()[:len(told)], told)
            self.assertIn(other.log()[len(told):], ([], [(other.log()[-1][0] if other.log() else 0, ("pass", k))]))
            kept, kept_other = told_by(office), told_by(other)
            for _ in range(8):
                attempt(lambda: other.do(random_deed(dice, slow)))
            self.assertEqual(told_by(office), kept)
            self.compare(office, slow, slow.day)
            other = office.as_of(k)
            for _ in range(8):
                attempt(lambda: office.do(random_deed(dice, slow)))
            self.assertEqual(told_by(other), kept_other)


class Deeds(unittest.TestCase):
    def test_entries(self):
        office = Office(CHARTER)
        self.assertEqual(told_by(office), (0, [], []))
        self.assertEqual(office.charter, CHARTER)
        told = []
        for deed, answer, entry in (
                (("pass", 7), None, None), (DEEDS[1], 0, (7, ("begin", "one", ROLES))), (("file", 3, "one", "pam", "claim"), 1, (3, ("file", "one", "pam", "claim"))),
                (("pass", 9), None, None), (("leave", 8, "one", "bob", "answer", 99), 2, (8, ("leave", "one", "bob", "answer", 99))),
                (("stay", 9, "all", "", "anew"), 3, (9, ("stay", "all", "", "anew"))), (("lift", 9, 3), 4, (9, ("lift", 3))),
                (("strike", 2), 5, (9, ("strike", 2))), (("amend", 1, 8), 6, (9, ("amend", 1, 8))), (("strike", 5), 7, (9, ("strike", 5))),
                (("lift", 0, 1), 8, (0, ("lift", 1))), (("file", 0, "none", "zoe", "claim"), 9, (0, ("file", "none", "zoe", "claim")))):
            today = office.today()
            self.assertEqual(office.do(deed), answer)
            told.append((today, deed))
            self.assertEqual(office.log(), told)
            if entry is not None:
                self.assertEqual(office.docket().entries()[-1], (answer, today) + entry)

    def test_what_is_returned_may_be_changed(self):
        office = office_with(("file", 7, "one", "pam", "claim"), ("hearing", 8, "one", 3, 0, 9), ("heads",) + ("one",) + FIRST_DEEDS[3][2:],
                             ("judge", "one", "debt", 1), ("expense", "one", "pam", 50, ("debt",)))
        kept = told_by(office)
        office.log().clear()
        office.docket().enter(7, 7, ("strike", 0))
        matter = office.matter("one", 7)
        matter.judge(7, "costs", 1)
        for told in (office.hearings(8, 7), office.fees("one", 7), office.order("one", 7)):
            self.assertNotEqual(told, [])
            told.clear()
        self.assertEqual(told_by(office), kept)
        self.assertEqual(office.hearings(8, 7), [("one", "ann", 3, 0, 9)])
        self.assertEqual(office.order("one", 7), [("bob", "pam", 50)])
        self.assertEqual(office.fees("one", 7), [(1, 190)])
        self.assertEqual(len(office.matter("one", 7).moves()), 1)

    def test_each_error(self):
        office = office_with(("file", 7, "one", "pam", "claim"), ("begin", 7, "two", ROLES[:2], 0, (), 0), ("heads", "one", HEADS[0], ("bob", "pam"), (1, 1)))
        for deed, error in (
                (("pass", 7), OutOfRange), (("pass", 6), OutOfRange), (("begin", 8, "new", ROLES, 0, (), 0), OutOfRange),
                (("file", 8, "one", "pam", "claim"), OutOfRange), (("leave", 8, "one", "bob", "answer", 9), OutOfRange),
                (("stay", 8, "all", "", "anew"), OutOfRange), (("lift", 8, 0), OutOfRange), (("amend", 1, 8), OutOfRange),
                (("hearing", 6, "one", 3, 0, 9), OutOfRange), (("unlist", 6, "one"), OutOfRange), (("lift", 7, 3), NotThere),
                (("strike", 3), NotThere), (("amend", 3, 7), NotThere), (("file", 7, "one", "pam", "none"), NotThere),
                (("leave", 7, "one", "bob", "none", 9), NotThere), (("event", 3, "bob", "hand", "bob"), NotThere),
                (("event", 0, "bob", "hand", "bob"), NotThere), (("event", 1, "court", "hand", "bob"), NotThere),
                (("event", 1, "zoe", "hand", "zoe"), NotThere), (("heads", "new", HEADS[0], ("bob", "pam"), (0, 0)), NotThere),
                (("heads", "two", HEADS[0], ("bob", "pam"), (0, 0)), NotThere), (("heads", "two", HEADS[0], ("bob", "court"), (0, 0)), NotThere),
                (("judge", "new", "debt", 1), NotThere), (("judge", "two", "debt", 1), NotThere), (("judge", "one", "house", 1), NotThere),
                (("appeal", "new", "debt"), NotThere), (("appeal", "two", "debt"), NotThere), (("appeal", "one", "house"), NotThere),
                (("send", "new", "debt"), NotThere), (("send", "two", "debt"), NotThere), (("send", "one", "house"), NotThere),
                (("expense", "new", "bob", 5, ("debt",)), NotThere), (("expense", "two", "bob", 5, ("debt",)), NotThere),
                (("expense", "one", "zoe", 5, ("debt",)), NotThere), (("expense", "one", "court", 5, ("debt",)), NotThere),
                (("expense", "one", "bob", 5, ("debt", "house")), NotThere), (("hearing", 8, "new", 3, 0, 9), NotThere),
                (("unlist", 8, "new"), NotThere), (("unlist", 8, "one"), NotThere), (("begin", 7, "one", ROLES, 0, (), 0), Refused),
                (("begin", 7, "new", ROLES, 0, ("ann", "bea"), 0), Refused), (("heads", "one", HEADS[1], ("bob", "pam"), (0, 0)), Refused),
                (("appeal", "one", "debt"), Refused), (("send", "one", "debt"), Refused), (("hearing", 8, "one", 9, 0, 9), Refused),
                (("hearing", 7, "one", 9, 0, 16), Refused)):
            kept = told_by(office)
            with self.assertRaises(error, msg=deed):
                office.do(deed)
            self.assertEqual(told_by(office), kept)

    def test_which_error_comes_first(self):
        office = office_with(("file", 7, "one", "pam", "claim"), ("strike", 1), ("heads", "one", HEADS[0], ("bob", "pam"), (1, 1)))
        for deed, error in (
                (("begin", 8, "one", ROLES, 0, (), 0), OutOfRange), (("file", 8, "one", "pam", "none"), OutOfRange), (("leave", 8, "one", "bob", "none", 9), OutOfRange),
                (("lift", 8, 99), OutOfRange), (("amend", 99, 8), OutOfRange), (("amend", 2, 8), OutOfRange), (("hearing", 6, "new", 9, 0, 9), OutOfRange),
                (("unlist", 6, "new"), OutOfRange), (("heads", "one", HEADS[0], ("bob", "zoe"), (1, 1)), NotThere),
                (("amend", 2, 7), Refused)):
            with self.assertRaises(error, msg=deed):
                office.do(deed)

    def test_causes_that_were_struck(self):
        office = office_with(("strike", 0))
        with self.assertRaises(Refused):
            office.do(("begin", 7, "one", ROLES, 900, (), 0))
        self.assertEqual(office.judge_for("one"), "ann")
        self.assertEqual(office.fees("one", 7), [])
        office.do(("heads", "one", HEADS[0], ("bob", "pam"), (1, 1)))
        with self.assertRaises(NotThere):
            office.fees("one", 6)
        self.assertEqual(office.do(("judge", "one", "debt", 1)), "judged")

    def test_the_wheel(self):
        # Two cards of ann and one of bea; the wheel is at first full.
        office = Office(CHARTER)
        for cause, barred, draw, judge in (("a", (), 2, "bea"), ("b", (), 0, "ann"), ("c", ("ann",), 7, "bea"), ("d", (), 2, "ann"),
                                           ("e", ("bea", "cid"), 10 ** 18, "ann")):
            with self.assertRaises(Refused):
                office.do(("begin", 0, cause, (), 0, ("ann", "bea"), draw))
            office.do(("begin", 0, cause, (), 0, barred, draw))
            self.assertEqual(office.judge_for(cause), judge)
        with self.assertRaises(NotThere):
            office.judge_for("f")

    def test_moves(self):
        office = office_with(("heads", "one", HEADS[0], ("bob", "pam"), (1, 1)))
        for deed, answer in ((("judge", "one", "debt", 1), "judged"), (("judge", "one", "costs", 0), "judged"), (("appeal", "one", "debt"), 0),
                             (("send", "one", "debt"), None), (("judge", "one", "debt", 0), "judged"), (("appeal", "one", "debt"), 1),
                             (("judge", "one", "debt", 0), "affirmed")):
            self.assertEqual(office.do(deed), answer)
        for deed in (("appeal", "one", "debt"), ("appeal", "one", "costs"), ("judge", "one", "debt", 0), ("send", "one", "debt")):
            with self.assertRaises(Refused):
                office.do(deed)
        self.assertEqual(office.judgment("one", 7), (("debt", "bob", "pam"),))


class Service(unittest.TestCase):
    def claim(self, *deeds):
        return office_with(("file", 7, "one", "pam", "claim"), *deeds)

    def served_entries(self, office):
        return [entry[1:] for entry in office.docket().entries() if entry[3][0] == "served"]

    def test_on_the_day_of_the_deed(self):
        # The day 7 is a Saturday, 9 a Monday.
        office = self.claim(("pass", 10), ("event", 1, "bob", "hand", "bob"))
        self.assertEqual(self.served_entries(office), [(10, 10, ("served", "one", "bob", "answer"))])
        self.assertEqual(office.served(1, "bob", 10), 10)
        self.assertIsNone(office.served(1, "bob", 9))
        self.assertIsNone(office.served(1, "dan", 10))
        self.assertIsNone(office.served(1, "zoe", 10))

    def test_in_a_pass(self):
        office = self.claim(("event", 1, "bob", "hand", "law"), ("event", 1, "dan", "post", "dan"))
        self.assertEqual(self.served_entries(office), [])
        office.do(("pass", 8))
        self.assertEqual(self.served_entries(office), [])
        office.do(("pass", 30))
        self.assertEqual(self.served_entries(office), [(9, 9, ("served", "one", "bob", "answer")), (11, 11, ("served", "one", "dan", "answer"))])
        self.assertEqual([office.served(1, "dan", k) for k in (10, 11, 30)], [None, 11, 11])
        self.assertEqual(office.as_of(10).served(1, "bob", 9), 9)

    def test_later_than_the_service(self):
        # The filing is amended to a later day, behind the day of service: then the entry holds for the day of its row.
        office = self.claim(("pass", 10), ("event", 1, "bob", "hand", "bob"), ("pass", 12), ("amend", 1, 11))
        self.assertEqual(self.served_entries(office), [(10, 10, ("served", "one", "bob", "answer")), (12, 11, ("served", "one", "bob", "answer"))])
        # It was struck when its paper was served, and stands again later.
        office = self.claim(("strike", 1), ("pass", 10), ("event", 1, "bob", "hand", "bob"))
        self.assertEqual(self.served_entries(office), [])
        office.do(("pass", 15))
        self.assertEqual(office.do(("strike", 2)), 3)
        self.assertEqual(self.served_entries(office), [(15, 10, ("served", "one", "bob", "answer"))])

    def test_several_at_once(self):
        office = office_with(("begin", 7, "two", ROLES, 0, (), 0), ("file", 7, "two", "pam", "claim"), ("file", 7, "one", "pam", "claim"),
                             ("strike", 0), ("pass", 10), ("event", 3, "dan", "hand", "dan"), ("event", 3, "bob", "hand", "bob"))
        self.assertEqual(self.served_entries(office), [])
        office.do(("event", 2, "dan", "hand", "dan"))
        self.assertEqual(len(self.served_entries(office)), 1)
        # The cause stands again: bob ahead of dan.
        office.do(("strike", 4))
        self.assertEqual([row[2][2] for row in self.served_entries(office)], ["dan", "bob", "dan"])
        with self.assertRaises(NotThere):
            office.served(0, "bob", 10)

    def test_in_the_order_of_days(self):
        office = self.claim(("pass", 9), ("event", 1, "dan", "post", "dan"), ("pass", 10), ("event", 1, "bob", "post", "bob"), ("pass", 30))
        self.assertEqual([row[:2] + (row[2][2],) for row in self.served_entries(office)], [(12, 12, "dan"), (13, 13, "bob")])

    def test_two_duties_of_one_filing(self):
        # A book in which the defendant has to answer and to reply: both duties wait for one paper.
        book = (BOOK[0], (("claim", ("plaintiff",), (), (), (("answer", "defendant"), ("reply", "defendant")), (), False),))
        office = Office((book,) + CHARTER[1:])
        for deed in (("pass", 10), ("begin", 10, "one", ROLES, 0, (), 0), ("file", 10, "one", "pam", "claim"), ("event", 1, "bob", "hand", "bob")):
            office.do(deed)
        self.assertEqual([row[2][2:] for row in self.served_entries(office)], [("bob", "answer"), ("bob", "reply")])
        while len(office.docket().entries()) < 499:
            office.do(("lift", 10, 0))
        kept = told_by(office)
        with self.assertRaises(TooMuch):
            office.do(("event", 1, "dan", "hand", "dan"))
        self.assertEqual(told_by(office), kept)
        self.assertEqual(office.do(("lift", 10, 0)), 499)

    def test_own_entries(self):
        office = self.claim(("pass", 10), ("event", 1, "bob", "hand", "bob"))
        for deed in (("strike", 2), ("amend", 2, 9)):
            with self.assertRaises(Refused):
                office.do(deed)
        with self.assertRaises(OutOfRange):
            office.do(("amend", 2, 11))
        # Others may be struck and amended, also what corrects.
        self.assertEqual(office.do(("strike", 1)), 3)
        self.assertEqual(office.do(("strike", 3)), 4)

    def test_events_of_a_day_are_sorted(self):
        office = self.claim(("pass", 9), ("event", 1, "bob", "post", "bob"), ("event", 1, "bob", "back", "bob"), ("pass", 20))
        self.assertIsNone(office.served(1, "bob", 20))
        self.assertEqual(self.served_entries(office), [])

    def test_sixty_events(self):
        office = self.claim()
        for _ in range(60):
            office.do(("event", 1, "bob", "try", "bob"))
        kept = told_by(office)
        with self.assertRaises(TooMuch):
            office.do(("event", 1, "bob", "hand", "bob"))
        self.assertEqual(told_by(office), kept)
        with self.assertRaises(NotThere):
            office.do(("event", 1, "zoe", "hand", "bob"))
        office.do(("event", 1, "dan", "try", "bob"))

    def test_calendar_of_the_filing(self):
        # From the day 20 on Saturdays are open; the regime of the day on which the filing was entered counts.
        regimes = ("new", ((0, (CALENDAR, RULES)), (20, (((6,), (), (), ()), LATER))))
        office = Office(CHARTER[:1] + (regimes,) + CHARTER[2:])
        for deed in (("pass", 19), ("begin", 19, "one", ROLES, 0, (), 0), ("file", 19, "one", "pam", "claim"), ("pass", 20),
                     ("file", 19, "one", "pam", "claim"), ("pass", 21), ("event", 1, "bob", "hand", "bob"), ("event", 2, "bob", "hand", "bob"), ("pass", 30)):
            office.do(deed)
        self.assertEqual([office.served(number, "bob", 30) for number in (1, 2)], [23, 21])


class Full(unittest.TestCase):
    def filled(self, many, *deeds):
        """An office whose docket has so many entries."""
        office = office_with(("file", 7, "one", "pam", "claim"), ("pass", 10), *deeds)
        while len(office.docket().entries()) < many:
            office.do(("lift", 7, 0))
        return office

    def check_too_much(self, office, deed):
        kept = told_by(office)
        with self.assertRaises(TooMuch):
            office.do(deed)
        self.assertEqual(told_by(office), kept)
        self.assertTrue(same(told_by(office_of(CHARTER, office.log())), kept))

    def test_full(self):
        office = self.filled(500)
        for deed in (("lift", 7, 0), ("file", 7, "one", "pam", "claim"), ("stay", 7, "all", "", "rests"), ("strike", 1), ("amend", 1, 7),
                     ("leave", 7, "one", "bob", "answer", 9), ("begin", 7, "new", (), 0, (), 0)):
            self.check_too_much(office, deed)
        with self.assertRaises(Refused):
            office.do(("begin", 7, "one", (), 0, (), 0))
        with self.assertRaises(Refused):
            office.do(("begin", 7, "new", (), 0, ("ann", "bea"), 0))
        with self.assertRaises(NotThere):
            office.do(("file", 7, "one", "pam", "none"))
        office.do(("heads", "one", HEADS[0], ("bob", "pam"), (0, 0)))

    def test_by_entries_of_its_own(self):
        event = ("event", 1, "bob", "hand", "bob")
        office = self.filled(499)
        self.assertIsNone(office.do(event))
        self.assertEqual(len(office.docket().entries()), 500)
        office = self.filled(500)
        self.check_too_much(office, event)
        self.assertIsNone(office.served(1, "bob", 10))
        office.do(("event", 1, "bob", "try", "bob"))
        # In a pass: bob on the day 13, dan on the day 16.
        office = self.filled(498, ("event", 1, "bob", "post", "bob"))
        office.do(("pass", 11))
        office.do(("event", 1, "dan", "post", "dan"))
        office.do(("lift", 7, 0))
        self.check_too_much(office, ("pass", 30))
        self.check_too_much(office, ("pass", 16))
        office.do(("pass", 15))
        self.assertEqual(len(office.docket().entries()), 500)
        self.check_too_much(office, ("pass", 16))

    def test_two_of_its_own(self):
        # The strike of a strike lets two duties wait whose papers are served: there is room for one of the entries.
        deeds = (("strike", 1), ("event", 1, "bob", "hand", "bob"), ("event", 1, "dan", "hand", "dan"))
        office = self.filled(498, *deeds)
        self.check_too_much(office, ("strike", 2))
        office.do(("lift", 7, 0))
        self.check_too_much(office, ("strike", 2))
        office.do(("lift", 7, 0))
        self.check_too_much(office, ("strike", 2))
        office = self.filled(497, *deeds)
        self.assertEqual(office.do(("strike", 2)), 497)
        self.assertEqual(len(office.docket().entries()), 500)
        # Behind a deed that was too much, another one with the same number is played as what it is.
        office = self.filled(498, *deeds)
        self.check_too_much(office, ("strike", 2))
        self.assertEqual(office.do(("file", 10, "one", "pam", "claim")), 498)
        self.assertEqual(office.fees("one", 10), [(498, 190)])
        # The number of an entry that was taken back may be that of one that is not the office's own.
        self.assertEqual(office.do(("lift", 7, 0)), 499)
        self.check_too_much(office, ("strike", 499))

    def test_stays(self):
        office = office_with()
        for _ in range(100):
            office.do(("stay", 7, "party", "zoe", "rests"))
        with self.assertRaises(TooMuch):
            office.do(("stay", 7, "party", "zoe", "rests"))
        office.do(("lift", 7, 5))

    def test_expenses(self):
        office = office_with(("heads", "one", HEADS[0], ("bob", "pam"), (0, 0)))
        for _ in range(60):
            office.do(("expense", "one", "pam", 3, ("debt",)))
        with self.assertRaises(TooMuch):
            office.do(("expense", "one", "pam", 3, ("debt",)))
        with self.assertRaises(NotThere):
            office.do(("expense", "one", "pam", 3, ("house",)))
        office.do(("judge", "one", "debt", 1))
        self.assertEqual(office.order("one", 7), [("bob", "pam", 180)])

    def test_hearings(self):
        bench = (tuple((name, (), (EVERY, 0, 16, ())) for name in ("ann", "bea")), tuple((name, (EVERY, 0, 16, ())) for name in ("hall", "room")))
        charter = CHARTER[:7] + ((("ann", 1), ("bea", 1)), bench)
        office = Office(charter)
        names = ["c" + one + other for one, other in itertools.product("abcde", repeat=2)] + ["da", "db"]
        for at, name in enumerate(names):
            office.do(("begin", 0, name, (), 0, ("ann",) if at % 2 else ("bea",), 0))
        for name in names[:24]:
            office.do(("hearing", 5, name, 1, 0, 16))
        self.assertEqual(len(office.hearings(5, 0)), 24)
        with self.assertRaises(TooMuch):
            office.do(("hearing", 5, names[24], 1, 0, 16))
        with self.assertRaises(TooMuch):
            office.do(("hearing", 5, names[24], 16, 0, 1))
        with self.assertRaises(Refused):
            office.do(("hearing", 5, names[3], 1, 0, 16))
        office.do(("unlist", 5, names[3]))
        with self.assertRaises(Refused):
            office.do(("hearing", 5, names[24], 16, 0, 1))
        office.do(("hearing", 5, names[24], 1, 0, 16))


class Known(unittest.TestCase):
    def test_days(self):
        office = office_with(("file", 7, "one", "pam", "claim"), ("pass", 9), ("heads", "one", HEADS[0], ("bob", "pam"), (0, 0)), ("pass", 12))
        for ask in (lambda k: office.served(1, "bob", k), lambda k: office.matter("one", k), lambda k: office.judgment("one", k),
                    lambda k: office.order("one", k), lambda k: office.fees("one", k), lambda k: office.hearings(3, k), office.as_of,
                    lambda k: office.turn("one", 9, k), lambda k: office.turn("one", k, k), lambda k: office.served(99, "bob", k),
                    lambda k: office.matter("none", k), lambda k: office.fees("none", k), lambda k: office.turn("none", 9, k)):
            for k in (13, -1, 1000001, True):
                with self.assertRaises(OutOfRange):
                    ask(k)
        for ask in (lambda: office.turn("one", -1, 9), lambda: office.turn("one", 9, 9), lambda: office.turn("one", 10, 9), lambda: office.turn("none", 9, 9), lambda: office.turn("one", 3, 2),
                    lambda: office.hearings(1000001, 9), lambda: office.hearings(-1, 9)):
            with self.assertRaises(OutOfRange):
                ask()
        for ask in (lambda: office.matter("one", 8), lambda: office.judgment("one", 8), lambda: office.order("one", 8), lambda: office.turn("one", 8, 9),
                    lambda: office.matter("two", 9), lambda: office.fees("two", 9), lambda: office.fees("one", 6), lambda: office.served(1, "bob", 6),
                    lambda: office.served(0, "bob", 9), lambda: office.served(2, "bob", 9), lambda: office.served(-1, "bob", 9)):
            with self.assertRaises(NotThere):
                ask()
        self.assertEqual(office.fees("one", 7), [(1, 190)])
        self.assertEqual(office.turn("one", 9, 12), [])
        self.assertEqual(office.hearings(1000000, 9), [])

    def test_moves_that_may_not_be_made_any_more(self):
        # A stay keeps the appeal in time; when it is struck, the appeal and what follows it are left out.
        office = office_with(("heads", "one", HEADS[1], ("bob", "pam"), (1, 1)), ("judge", "one", "debt", 1), ("stay", 7, "cause", "one", "rests"), ("pass", 40),
                             ("appeal", "one", "debt"), ("judge", "one", "debt", 0), ("pass", 41))
        self.assertEqual(office.judgment("one", 40), (("debt", "bob", "pam"),))
        office.do(("strike", 1))
        self.assertEqual(office.judgment("one", 41), (("debt", "pam", "bob"),))
        self.assertEqual(office.matter("one", 41).moves(), [(7, "judge", "debt", 1)])
        self.assertEqual(len(office.matter("one", 40).moves()), 3)
        with self.assertRaises(Refused):
            office.do(("appeal", "one", "debt"))
        # The stays of other causes and of parties do not touch the matter.
        office = office_with(("heads", "one", HEADS[1], ("bob", "pam"), (1, 1)), ("judge", "one", "debt", 1), ("stay", 7, "cause", "two", "rests"),
                             ("stay", 7, "party", "bob", "rests"), ("pass", 40))
        self.assertEqual(office.matter("one", 40).stays, ())
        with self.assertRaises(Refused):
            office.do(("appeal", "one", "debt"))
        office.do(("stay", 7, "all", "", "anew"))
        self.assertEqual(office.matter("one", 40).stays, (("all", "", 7, None, "anew"),))
        self.assertEqual(office.do(("appeal", "one", "debt")), 0)

    def test_values_that_fall(self):
        office = office_with(("heads", "one", HEADS[0], ("bob", "pam"), (1, 1)), ("judge", "one", "costs", 1), ("expense", "one", "pam", 9, ("costs", "debt")))
        self.assertEqual(office.judgment("one", 7), ())
        office.do(("judge", "one", "debt", 1))
        self.assertEqual(office.judgment("one", 7), (("costs", "pam", "bob"), ("debt", "pam", "bob")))
        self.assertEqual(office.order("one", 7), [("bob", "pam", 9)])
        office.do(("pass", 8))
        office.do(("appeal", "one", "debt"))
        office.do(("judge", "one", "debt", 0))
        self.assertEqual(office.judgment("one", 8), (("debt", "bob", "pam"),))
        self.assertEqual(office.order("one", 8), [])
        self.assertEqual(office.turn("one", 7, 8), [("pam", "bob", 9)])

    def test_fees(self):
        office = office_with(("file", 7, "one", "pam", "claim"), ("file", 7, "one", "pam", "motion"), ("pass", 9), ("event", 1, "bob", "hand", "bob"),
                             ("file", 9, "one", "pam", "motion"), ("file", 9, "one", "bob", "defence"), ("pass", 20))
        # The first motion is idle, and defences have no fee; the motion is struck later.
        self.assertEqual(office.fees("one", 9), [(1, 190), (4, 7)])
        office.do(("strike", 4))
        self.assertEqual(office.fees("one", 20), [(1, 190)])
        self.assertEqual(office.fees("one", 19), [(1, 190), (4, 7)])
        # By the way "new", the table of the day of the filing counts: from the day 12 on, motions have none.
        office.do(("amend", 1, 12))
        self.assertEqual(office.fees("one", 20), [(1, 60)])
        office.do(("amend", 0, 15))
        self.assertEqual(office.fees("one", 20), [])

    def test_lists(self):
        office = office_with(("pass", 9), ("hearing", 9, "one", 3, 0, 9), ("pass", 10), ("hearing", 11, "one", 3, 0, 9), ("pass", 11), ("unlist", 11, "one"),
                             ("hearing", 11, "one", 5, 1, 8))
        self.assertEqual([office.hearings(11, k) for k in (9, 10, 11)], [[], [("one", "ann", 3, 0, 9)], [("one", "ann", 5, 1, 8)]])
        self.assertEqual(office.hearings(9, 11), [("one", "ann", 3, 0, 9)])
        office.do(("unlist", 11, "one"))
        self.assertEqual(office.hearings(11, 11), [])
        self.assertEqual(office.hearings(11, 10), [("one", "ann", 3, 0, 9)])
        with self.assertRaises(NotThere):
            office.do(("unlist", 11, "one"))
        with self.assertRaises(OutOfRange):
            office.do(("unlist", 9, "one"))
        # Ann sits in the first eight slots; each list has a placing.
        office.do(("begin", 11, "two", (), 0, ("bea",), 0))
        office.do(("hearing", 11, "two", 8, 0, 16))
        with self.assertRaises(Refused):
            office.do(("hearing", 11, "one", 1, 0, 16))
        self.assertIsNone(lack(BENCH, 11, office.hearings(11, 11)))

    def test_lists_of_several_causes(self):
        office = office_with(("pass", 9), ("begin", 9, "abc", (), 0, ("ann",), 0), ("begin", 9, "two", (), 0, ("bea",), 0), ("hearing", 12, "two", 1, 0, 9),
                             ("hearing", 12, "one", 1, 0, 9), ("hearing", 12, "abc", 2, 0, 9), ("hearing", 13, "one", 1, 0, 9))
        rows = [("abc", "bea", 2, 0, 9), ("one", "ann", 1, 0, 9), ("two", "ann", 1, 0, 9)]
        self.assertEqual(office.hearings(12, 9), rows)
        for day, cause, told in ((10, "one", [rows[0], rows[2]]), (11, "abc", rows[2:])):
            office.do(("pass", day))
            office.do(("unlist", 12, cause))
            self.assertEqual(office.hearings(12, day), told)
        office.do(("hearing", 12, "one", 5, 0, 9))
        office.do(("pass", 12))
        office.do(("unlist", 12, "one"))
        self.assertEqual([len(office.hearings(12, k)) for k in (8, 9, 10, 11, 12)], [0, 3, 2, 2, 1])
        self.assertEqual(office.hearings(13, 12), [("one", "ann", 1, 0, 9)])

    def test_office_of(self):
        log = [(0, ("pass", 7)), (7, ("begin", 7, "one", ROLES, 900, (), 0)), (7, ("pass", 9)), (9, ("file", 8, "one", "pam", "claim"))]
        kept = list(log)
        office = office_of(CHARTER, log)
        self.assertEqual(log, kept)
        self.assertEqual(office.log(), log)
        log.clear()
        self.assertEqual(office.log(), kept)
        for changed in ([(7, ("pass", 7))], kept[:1] + [(6, kept[1][1])], kept[:3] + [(7, kept[3][1])], kept[:3] + [(10, kept[3][1])]):
            with self.assertRaises(Malformed):
                office_of(CHARTER, changed)
        for changed, error in ((kept[:1] + [(7, ("pass", 7))], OutOfRange), (kept + [(9, ("strike", 5))], NotThere), (kept + [(9, kept[1][1])], Refused),
                               (kept + [(9, None)], Malformed)):
            with self.assertRaises(error):
                office_of(CHARTER, changed)
        with self.assertRaises(Malformed):
            office_of(None, [])
        with self.assertRaises(Malformed):
            office_of(CHARTER, [(False, ("pass", 7))])


if __name__ == "__main__":
    unittest.main()
