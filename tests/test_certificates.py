"""Points 198 and 199: certificates, made and held against the log."""

import random
import unittest

from bureau import CAUSES, FIRST_DEEDS, HEADS, PARTIES, Slow, likely_deed, random_charter, random_deed
from docketloom.answers import certify
from docketloom.asof import grounds
from docketloom.errors import DocketError, Malformed, NotThere, OutOfRange, TooMuch
from docketloom.finality import ending_of, is_way, may_end
from docketloom.judge import holds
from docketloom.office import Office
from docketloom.slots import is_lack
from docketloom.standing import scene
from odd import ODD, mutants, same
from serving import all_proofs
from test_office import CHARTER, ROLES, office_with

QUESTIONS = (("duty", "one", 1, "bob", "answer", 9, 9), ("served", 1, "bob", 9), ("may", "one", "debt", 0, 9), ("may", "one", "costs", None, 9),
             ("open", "one", "debt", 9), ("full", 8, "two", 9, 0, 9, 9))


def attempt(ask):
    try:
        return ask()
    except DocketError as error:
        return type(error)


def some_office():
    return office_with(("file", 7, "one", "pam", "claim"), ("pass", 9), ("event", 1, "bob", "hand", "law"), ("event", 1, "bob", "hand", "bob"),
                       ("heads", "one", HEADS[0], ("bob", "pam"), (1, 1)), ("judge", "one", "debt", 1), ("judge", "one", "costs", 0),
                       ("begin", 9, "two", ROLES, 0, ("bea",), 0), ("hearing", 12, "one", 6, 0, 9), ("pass", 12))


def list_mutants(value):
    """Mutants of certificates, in which lists stand, too."""
    yield from mutants(value)
    if isinstance(value, (list, tuple)):
        for at, item in enumerate(value):
            for other in list_mutants(item) if isinstance(item, (list, tuple)) else ():
                yield value[:at] + type(value)([other]) + value[at + 1:]
    if isinstance(value, list):
        yield tuple(value)
        yield value + value[-1:]
        for at, item in enumerate(value):
            yield value[:at] + value[at + 1:]
            for other in mutants(item):
                yield value[:at] + [other] + value[at + 1:]


class Slowly:
    """What point 199 says, reckoned from a slow office."""

    def __init__(self, slow):
        self.slow = slow

    def bears_out(self, certificate):
        question, answer, paper = certificate
        return getattr(self, "is_" + question[0])(question, answer, paper)

    def is_duty(self, question, answer, paper):
        _, cause, opened, party, duty, d, k = question
        stage = scene(self.slow.docket, d, k)
        rows = stage.duties(cause, d) if cause in stage.causes() else []
        if not any(same(answer, row) and row[:3] == (opened, party, duty) for row in rows):
            return False
        return same(paper, attempt(lambda: grounds(self.slow.docket, *question[1:])))

    def is_served(self, question, answer, paper):
        _, number, party, k = question
        entries = self.slow.docket.entries()
        if number >= len(entries) or entries[number][3][0] != "file" or entries[number][1] > k:
            return False
        if answer is None or not same(answer, self.slow.served(number, party, k)):
            return False
        _, regimes, manner, powers = self.slow.charter[:4]
        calendar = [regime[0] for first, regime in regimes[1] if first <= entries[number][1]][-1]
        proofs = all_proofs(calendar, manner, powers, party, self.slow.events(number, party, k))
        return any(same(paper, proof) for proof in proofs if proof[0] == answer)

    def matter(self, cause, k):
        return self.slow.matter(cause, k) if self.slow.heads_of(cause, k) else None

    def is_may(self, question, answer, paper):
        _, cause, head, value, k = question
        matter = self.matter(cause, k)
        prices = may_end(matter, k, head)
        if value not in prices or not same(answer, prices[value]) or not is_way(matter, k, paper):
            return False
        at = [name for name, _, _ in matter.heads].index(head)
        return ending_of(matter, paper)[at] == value and [move[1] for move in paper].count("appeal") == answer

    def is_open(self, question, answer, paper):
        _, cause, head, k = question
        matter = self.matter(cause, k)
        prices = may_end(matter, k, head)
        if type(answer) is not tuple or type(paper) is not tuple or len(answer) != 2 or len(paper) != 2:
            return False
        if not all(value is None or type(value) is int for value in answer) or answer[0] == answer[1]:
            return False
        at = [name for name, _, _ in matter.heads].index(head)
        return all(value in prices and is_way(matter, k, way) and ending_of(matter, way)[at] == value
                   for value, way in zip(answer, paper))

    def is_full(self, question, answer, paper):
        _, day, cause, length, first, behind, k = question
        listed = self.slow.hearings(day, k)
        if cause in [row[0] for row in listed] or len(listed) >= 24:
            return False
        told = sorted(listed + [(cause, self.slow.cards()[1][cause], length, first, behind)])
        return same(answer, told) and is_lack(self.slow.charter[8], day, told, paper)


class Questions(unittest.TestCase):
    def test_malformed(self):
        office = some_office()
        for question in QUESTIONS:
            self.assertIsInstance(certify(office, question), tuple)
            for at in range(len(question)):
                for value in (-1, "", "A", True, False, 1000001, None, (), [1], "a" * 17, 2.0, "none"):
                    told = question[:at] + (value,) + question[at + 1:]
                    good = same(value, question[at]) or (isinstance(value, str) and value == "none" and isinstance(question[at], str) and at > 0)
                    good = good or (question[0] == "may" and at == 3 and value is None)
                    answer = attempt(lambda: certify(office, told))
                    if good:
                        self.assertIsNot(answer, Malformed, told)
                    else:
                        self.assertIs(answer, Malformed, told)
                        self.assertIs(holds(CHARTER, office.log(), (told, 0, ())), False)
            for told in (question[:-1], question + (0,), list(question), question[1:], ("none",) + question[1:]):
                self.assertIs(attempt(lambda: certify(office, told)), Malformed)
        for value in ODD:
            self.assertIs(attempt(lambda: certify(office, value)), Malformed)
        for told in (("may", "one", "debt", 2, 9), ("may", "one", "debt", True, 9), ("full", 8, "one", 0, 0, 9, 9), ("full", 8, "one", 17, 0, 9, 9),
                     ("full", 8, "one", 3, 9, 9, 9), ("full", 8, "one", 3, 0, 17, 9), ("served", 500, "bob", 9), ("duty", "one", 500, "bob", "answer", 9, 9)):
            self.assertIs(attempt(lambda: certify(office, told)), Malformed, told)

    def test_errors(self):
        office = some_office()
        for question in QUESTIONS:
            self.assertIs(attempt(lambda: certify(office, question[:-1] + (13,))), OutOfRange)
            self.assertIs(attempt(lambda: certify(office, question[:-1] + (6,))), NotThere)
        for question in (("duty", "none", 1, "bob", "answer", 9, 9), ("duty", "one", 2, "bob", "answer", 9, 9), ("duty", "one", 1, "pam", "answer", 9, 9),
                         ("duty", "one", 1, "bob", "reply", 9, 9), ("duty", "one", 1, "bob", "answer", 6, 9), ("served", 0, "bob", 9),
                         ("served", 77, "bob", 9), ("may", "two", "debt", 0, 9), ("may", "one", "house", 0, 9), ("open", "none", "debt", 9),
                         ("open", "one", "house", 9), ("full", 8, "none", 3, 0, 9, 9), ("full", 8, "two", 3, 0, 9, 8)):
            self.assertIs(attempt(lambda: certify(office, question)), NotThere, question)
        for question in (("duty", "none", 1, "bob", "answer", 9, 13), ("may", "none", "debt", 0, 13)):
            self.assertIs(attempt(lambda: certify(office, question)), OutOfRange)

    def test_too_much(self):
        office = office_with(("file", 7, "one", "pam", "claim"))
        question = ("duty", "one", 1, "bob", "answer", 7, 7)
        for _ in range(38):
            office.do(("file", 7, "one", "zoe", "claim"))
        certificate = certify(office, question)
        self.assertEqual(certificate, (question, (1, "bob", "answer", "waiting", None, None, None), [0, 1]))
        office.do(("lift", 7, 0))
        self.assertIs(attempt(lambda: certify(office, question)), TooMuch)
        self.assertIs(holds(CHARTER, office.log(), certificate), False)

    def test_none(self):
        office = some_office()
        # Not served, no such value, final, on the list, with a placing.
        for question in (("served", 1, "dan", 12), ("served", 1, "zoe", 12), ("served", 1, "bob", 8), ("full", 12, "one", 16, 0, 1, 12),
                         ("full", 12, "two", 2, 0, 9, 12)):
            self.assertIsNone(certify(office, question))
        self.assertIsNotNone(certify(office, ("full", 12, "two", 3, 0, 9, 12)))
        self.assertIsNotNone(certify(office, ("full", 12, "one", 9, 0, 9, 8)))
        office.do(("pass", 200))
        self.assertIsNone(certify(office, ("open", "one", "debt", 200)))
        self.assertIsNone(certify(office, ("may", "one", "debt", 0, 200)))
        self.assertEqual(certify(office, ("may", "one", "debt", 1, 200)), (("may", "one", "debt", 1, 200), 0, []))
        # Another value would do for an ending that is none.
        self.assertIs(holds(CHARTER, office.log(), (("may", "one", "debt", 0, 200), None, None)), False)


class Holding(unittest.TestCase):
    def test_each_part_changed(self):
        office = some_office()
        log = office.log()
        slow = Slow(CHARTER)
        for _, deed in log:
            slow.take(deed)
        slowly = Slowly(slow)
        many = good = 0
        for question in QUESTIONS:
            certificate = certify(office, question)
            self.assertEqual(certificate[0], question)
            self.assertIs(holds(CHARTER, log, certificate), True)
            for at in (1, 2):
                for value in list_mutants(certificate[at]):
                    told = certificate[:at] + (value,) + certificate[at + 1:]
                    many += 1
                    borne = slowly.bears_out(told)
                    good += borne
                    self.assertIs(holds(CHARTER, log, told), borne, told)
            for told in (certificate[:2], certificate + (0,), list(certificate), (list(question),) + certificate[1:]):
                self.assertIs(holds(CHARTER, log, told), False)
            for other in QUESTIONS:
                if other != question:
                    # A way to one value may be one to a value of another head.
                    told = (other,) + certificate[1:]
                    self.assertIs(holds(CHARTER, log, told), other[0] == question[0] and slowly.bears_out(told))
        self.assertGreater(many, 2000)
        for value in ODD:
            self.assertIs(holds(CHARTER, log, value), False)
            self.assertIs(holds(CHARTER, log, (value, 0, ())), False)

    def test_other_papers_and_answers(self):
        office = some_office()
        log = office.log()
        # Another event, another chain.
        for proof, told in (((9, 0, (), ()), True), ((9, 1, (0,), ()), True), ((9, 1, (), ()), False), ((9, 0, (0,), ()), False), ((10, 0, (), ()), False)):
            self.assertIs(holds(CHARTER, log, (("served", 1, "bob", 9), 9, proof)), told)
        # A proof that shows service on a later day.
        office.do(("event", 1, "bob", "hand", "bob"))
        for proof, told in (((9, 0, (), ()), True), ((12, 2, (), ()), False), ((9, 2, (), ()), False)):
            self.assertIs(holds(CHARTER, office.log(), (("served", 1, "bob", 12), 9, proof)), told)
            self.assertIs(holds(CHARTER, office.log(), (("served", 1, "bob", 12), 12, proof)), False)
        # A way with more moves, or with more appeals than the price says.
        question = ("may", "one", "debt", 1, 9)
        way = [(9, "appeal", "debt", None), (9, "judge", "debt", 1)]
        for price, paper, told in ((0, [], True), (1, way, False), (0, way, False), (0, [(9, "judge", "debt", 1)], False)):
            self.assertIs(holds(CHARTER, log, (question, price, paper)), told)
        question = ("may", "one", "debt", 0, 9)
        for day, told in ((9, True), (10, True), (8, False), (300, False)):
            way = [(day, "appeal", "debt", None), (day, "judge", "debt", 0)]
            self.assertIs(holds(CHARTER, log, (question, 1, way)), told)
        # Any two values, in any order, with ways to them.
        question = ("open", "one", "costs", 9)
        ways = {0: [], 1: [(9, "appeal", "costs", None), (9, "judge", "costs", 1)], None: [(9, "appeal", "debt", None), (9, "judge", "debt", 0)]}
        self.assertEqual(certify(office, question)[1], (0, 1))
        for one in ways:
            for other in ways:
                self.assertIs(holds(CHARTER, log, (question, (one, other), (ways[one], ways[other]))), one != other)
                self.assertIs(holds(CHARTER, log, (question, (one, other), (ways[other], ways[one]))), False)
        # Any lack.
        question, hearings, lack = certify(office, ("full", 12, "two", 9, 0, 9, 12))
        found = 0
        for names in (("one",), ("two",), ("one", "two"), ()):
            told = is_lack(CHARTER[8], 12, hearings, names)
            found += told
            self.assertIs(holds(CHARTER, log, (question, hearings, names)), told)
        self.assertGreater(found, 1)
        self.assertIs(holds(CHARTER, log, (question, hearings[::-1], lack)), False)
        self.assertIs(holds(CHARTER, log, (question, tuple(hearings), lack)), False)

    def test_lists(self):
        office = some_office()
        # The hearing stands in its place by name; a cause that is on the list, and a full list, have no certificate.
        for deed in (("begin", 12, "abc", (), 0, ("bea",), 0), ("hearing", 14, "two", 8, 0, 8)):
            office.do(deed)
        question = ("full", 14, "abc", 1, 0, 16, 12)
        certificate = certify(office, question)
        self.assertEqual(certificate[1], [("abc", "ann", 1, 0, 16), ("two", "ann", 8, 0, 8)])
        self.assertIs(holds(CHARTER, office.log(), certificate), True)
        for answer, lack in ((None, ("two",)), (office.hearings(14, 12), ("two",)), (None, None), ([], ())):
            self.assertIs(holds(CHARTER, office.log(), (("full", 14, "two", 9, 0, 16, 12), answer, lack)), False)
            self.assertIs(holds(CHARTER, office.log(), (("full", 14, "one", 1, 9, 16, 12), answer, lack)), False)
        bench = (tuple((name, (), ((0, 1, 2, 3, 4, 5, 6), 0, 16, ())) for name in ("ann", "bea", "cid")), ())
        charter = CHARTER[:7] + ((("ann", 1), ("bea", 1), ("cid", 1)), (bench[0], tuple((name, ((0, 1, 2, 3, 4, 5, 6), 0, 16, ())) for name in ("a", "b"))))
        office = Office(charter)
        names = [one + other for one in "abcde" for other in "abcde"]
        for at, name in enumerate(names):
            office.do(("begin", 0, name, (), 0, tuple(judge for judge in ("ann", "bea", "cid") if judge != ("ann", "bea", "cid")[at % 3]), 0))
        for name in names[:23]:
            office.do(("hearing", 5, name, 1, 0, 16))
        question = ("full", 5, names[24], 16, 0, 1, 0)
        certificate = certify(office, question)
        self.assertIs(holds(charter, office.log(), certificate), True)
        office.do(("hearing", 5, names[23], 1, 0, 16))
        self.assertIsNone(certify(office, question))
        self.assertIs(holds(charter, office.log(), certificate), False)
        told = sorted(office.hearings(5, 0) + [(names[24], office.judge_for(names[24]), 16, 0, 1)])
        self.assertIs(holds(charter, office.log(), (question, told, (names[24],))), False)

    def test_calendar_of_the_filing(self):
        # The regime of the day on which the filing was entered counts, not the one of the day for which it holds.
        later = (((), (), (), ()), CHARTER[1][1][0][1][1])
        charter = CHARTER[:1] + (("old", CHARTER[1][1] + ((20, later),)),) + CHARTER[2:]
        office = Office(charter)
        for deed in (("pass", 20), ("begin", 19, "one", ROLES, 0, (), 0), ("file", 19, "one", "pam", "claim"), ("pass", 21), ("event", 1, "bob", "hand", "bob")):
            office.do(deed)
        certificate = certify(office, ("served", 1, "bob", 21))
        self.assertEqual(certificate, (("served", 1, "bob", 21), 21, (21, 0, (), ())))
        self.assertEqual(office.docket().entries()[2:], [(2, 21, 21, ("served", "one", "bob", "answer"))])
        self.assertIs(holds(charter, office.log(), certificate), True)

    def test_what_was_known(self):
        # The certificates of a day hold for longer logs, and not for shorter ones.
        office = some_office()
        log = office.log()
        for question in QUESTIONS:
            certificate = certify(office, question)
            self.assertIs(holds(CHARTER, log + [(12, ("pass", 40)), (40, ("strike", 1))], certificate), True)
            self.assertIs(holds(CHARTER, log[:2], certificate), False)

    def test_drawn(self):
        dice = random.Random(199)
        made, none = {}, {}
        for number in range(60):
            charter = random_charter(dice)
            office, slow = Office(charter), Slow(charter)
            for step in range(dice.randint(5, 40)):
                deed = FIRST_DEEDS[step] if step < len(FIRST_DEEDS) and number % 4 else likely_deed(dice, slow)
                if slow.fault(deed) is None:
                    office.do(deed)
                    slow.take(deed)
            log = office.log()
            slowly = Slowly(slow)
            certificates = []
            for _ in range(12):
                k = dice.randint(max(0, slow.day - 4), slow.day)
                cause, head = dice.choice(("one",) + CAUSES), dice.choice(("debt", "costs"))
                first = dice.randint(0, 9)
                for question in (("duty", cause, dice.randint(0, 6), dice.choice(PARTIES), dice.choice(("answer", "pay", "reply")), k + dice.randint(0, 9), k),
                                 ("served", dice.randint(0, 6), dice.choice(PARTIES[:2]), k), ("may", cause, head, dice.choice((0, 1, None)), k),
                                 ("open", cause, head, k), ("full", k + dice.randint(-2, 2) if k > 2 else k, cause, dice.choice((1, 5, 9)), first, dice.randint(first + 1, 16), k)):
                    kept = log + []
                    certificate = attempt(lambda: certify(office, question))
                    self.assertEqual(office.log(), kept)
                    if isinstance(certificate, tuple):
                        made[question[0]] = made.get(question[0], 0) + 1
                        self.assertIs(holds(charter, log, certificate), True)
                        self.assertIs(slowly.bears_out(certificate), True)
                        certificates.append(certificate)
                    else:
                        none[question[0], certificate] = True
            for certificate in certificates[:6]:
                other = dice.choice(certificates)
                for told in ((certificate[0], other[1], certificate[2]), (certificate[0], certificate[1], other[2]), (other[0],) + certificate[1:]):
                    borne = attempt(lambda: slowly.bears_out(told)) if told[0][0] == certificate[0][0] == other[0][0] else False
                    self.assertIs(holds(charter, log, told), borne is True, told)
        self.assertEqual(sorted(made), ["duty", "full", "may", "open", "served"])
        self.assertGreater(min(made.values()), 5)
        for word in ("served", "may", "open", "full"):
            self.assertIn((word, None), none)
        for word in made:
            self.assertIn((word, NotThere), none)


if __name__ == "__main__":
    unittest.main()
