"""Points 200 to 204: notices, surprises, deeds as lines, logs as texts, scripts."""

import random
import unittest

from bureau import FIRST_DEEDS, HEADS, Slow, likely_deed, random_charter, random_deed
from docketloom.asof import news
from docketloom.errors import DocketError, Malformed, NotThere, OutOfRange, Refused, TooMuch
from docketloom.lines import read_sheet
from docketloom.notices import lying_still, notices, surprises
from docketloom.office import Office, office_of
from docketloom.scripts import deed_of_line, line_of_deed, log_of, log_text, run_script
from docketloom.standing import scene
from odd import same
from test_office import CHARTER, DEEDS, ROLES, office_with

LINES = (
    "pass 7", "begin 7 one 900 5 bob:defendant dan:defendant pam:plaintiff +ann", "file 7 one pam claim", "leave 7 one bob answer 9",
    "stay 7 cause one rests", "stay 7 all - anew", "lift 7 4", "strike 3", "amend 2 6", "event 1 bob hand law",
    "heads one bob pam 2 0 debt::0 house::0 costs:house:0", "judge one debt 1", "appeal one debt", "send one debt", "expense one pam 70 costs debt",
    "hearing 8 one 3 0 9", "unlist 8 one")
NAMES = {OutOfRange: "range", Malformed: "form", NotThere: "none", Refused: "refused", TooMuch: "much"}


class Notices(unittest.TestCase):
    def test_against_scenes(self):
        dice = random.Random(200)
        many = [0, 0, 0]
        for number in range(60):
            charter = random_charter(dice)
            office, slow = Office(charter), Slow(charter)
            for step in range(dice.randint(5, 45)):
                deed = FIRST_DEEDS[step] if step < len(FIRST_DEEDS) and number % 4 else likely_deed(dice, slow)
                if slow.fault(deed) is None:
                    office.do(deed)
                    slow.take(deed)
            today = slow.day
            stage = scene(slow.docket, today, today)
            rows = [(cause, row) for cause in stage.causes() for row in stage.duties(cause, today)]
            still = sorted((cause, row[1], row[2], row[0]) for cause, row in rows
                           if row[3] == "waiting" or (row[3] == "open" and row[5] is None))
            self.assertTrue(same(lying_still(office), still))
            for n in (0, 1, 5, 20, 1000):
                told = sorted((row[5], cause, row[1], row[2], row[0]) for cause, row in rows
                              if row[3] == "open" and row[5] is not None and today <= row[5] <= today + n)
                self.assertTrue(same(notices(office, n), told))
                many[0] += len(told)
            many[1] += len(still)
            for k in range(1, today + 1):
                told = news(slow.docket, k, k - 1, k)
                self.assertTrue(same(surprises(office, k), told))
                many[2] += len(told)
        self.assertGreater(min(many), 10)

    def test_ends(self):
        # Served on the day 9, a Monday; a month later is the day 40, a Thursday.
        office = office_with(("file", 7, "one", "pam", "claim"), ("pass", 9), ("event", 1, "bob", "hand", "bob"))
        row = (40, "one", "bob", "answer", 1)
        self.assertEqual(office.docket().entries()[2][1:3], (9, 9))
        pay = (12, "one", "pam", "pay", 1)
        for n, told in ((0, []), (2, []), (3, [pay]), (30, [pay]), (31, [pay, row]), (1000, [pay, row])):
            self.assertEqual(notices(office, n), told)
        self.assertEqual(lying_still(office), [("one", "dan", "answer", 1)])
        for day, n, told in ((12, 0, [pay]), (13, 0, []), (39, 0, []), (39, 1, [row]), (40, 0, [row]), (41, 1000, [])):
            if office.today() < day:
                office.do(("pass", day))
            self.assertEqual(notices(office, n), told)
        # It is open, without a last day, as long as a stay goes on that was begun ahead of its end.
        office = office_with(("file", 7, "one", "pam", "claim"), ("pass", 9), ("event", 1, "bob", "hand", "bob"), ("stay", 9, "party", "bob", "rests"), ("pass", 99))
        self.assertEqual(lying_still(office), [("one", "bob", "answer", 1), ("one", "dan", "answer", 1)])
        self.assertEqual(notices(office, 1000), [])

    def test_errors(self):
        office = office_with()
        for n in (-1, 1001):
            with self.assertRaises(OutOfRange):
                notices(office, n)
        for k in (0, 8, 1000001, -1):
            with self.assertRaises(OutOfRange):
                surprises(office, k)
        self.assertEqual((notices(office, 0), notices(office, 1000), lying_still(office), surprises(office, 1)), ([], [], [], []))
        office = Office(CHARTER)
        with self.assertRaises(OutOfRange):
            surprises(office, 0)

    def test_surprises(self):
        office = office_with(("file", 7, "one", "pam", "claim"), ("pass", 10))
        self.assertEqual(surprises(office, 10), [])
        office.do(("amend", 1, 10))
        self.assertEqual(surprises(office, 10), [])
        office.do(("strike", 1))
        self.assertEqual(surprises(office, 10), [("one", 1, party, duty, state, "none") for party, duty, state in
                                                 (("bob", "answer", "waiting"), ("dan", "answer", "waiting"), ("pam", "pay", "open"))])
        self.assertEqual(surprises(office, 7), [("one", 1, party, duty, "none", state) for party, duty, state in
                                                (("bob", "answer", "waiting"), ("dan", "answer", "waiting"), ("pam", "pay", "open"))])


class Lines(unittest.TestCase):
    def test_each_word(self):
        for deed, line in zip(DEEDS, LINES):
            self.assertEqual(line_of_deed(deed), line)
            self.assertTrue(same(deed_of_line(line), deed))
        for deed, line in ((("begin", 0, "a", (), 0, (), 0), "begin 0 a 0 0"), (("begin", 0, "a", (), 0, ("b", "c"), 10 ** 18), "begin 0 a 0 1000000000000000000 +b +c"),
                           (("heads", "a", (("b", "", 0),), ("c", "d"), (0, 0)), "heads a c d 0 0 b::0"), (("expense", "a", "b", 10 ** 12, ("c",)), "expense a b 1000000000000 c"),
                           (("stay", 0, "party", "a", "anew"), "stay 0 party a anew")):
            self.assertEqual(line_of_deed(deed), line)
            self.assertTrue(same(deed_of_line(line), deed))
        # The longest one has nineteen words.
        longest = "a" * 15
        parties = tuple((longest + sign, longest + "z") for sign in "abcdefgh")
        deed = ("begin", 1000000, longest, parties, 10 ** 12, tuple(longest + sign for sign in "abcdef"), 10 ** 18)
        self.assertEqual(len(line_of_deed(deed).split(" ")), 19)
        self.assertEqual(deed_of_line(line_of_deed(deed)), deed)

    def test_drawn(self):
        dice = random.Random(202)
        slow = Slow(random_charter(dice))
        for deed in FIRST_DEEDS:
            slow.take(deed)
        lines = {}
        for _ in range(2000):
            deed = random_deed(dice, slow)
            line = line_of_deed(deed)
            self.assertEqual(len(read_sheet(line)[0]), 1)
            self.assertEqual(lines.setdefault(line, deed), deed)
            self.assertTrue(same(deed_of_line(line), deed))

    def changed(self, line):
        """The line with a sign put in, left out or changed, a word doubled, left out or exchanged, noughts ahead of numbers."""
        signs = "a1-:+ #0.A\n"
        for at in range(len(line) + 1):
            for sign in signs:
                yield line[:at] + sign + line[at:]
                yield line[:at] + sign + line[at + 1:]
            yield line[:at] + line[at + 1:]
        words = line.split(" ")
        for at, word in enumerate(words):
            yield " ".join(words[:at] + words[at + 1:])
            yield " ".join(words[:at] + [word] + words[at:])
            yield " ".join(words[:at] + ["0" + word] + words[at + 1:])
            yield " ".join(words[:at] + ["+" + word] + words[at + 1:])
            yield " ".join(words[:at] + ["-" + word] + words[at + 1:])
            for other in range(at):
                yield " ".join(words[:other] + [word] + words[other + 1:at] + [words[other]] + words[at + 1:])

    def test_one_deed_for_a_line(self):
        bad = good = 0
        for line in LINES:
            for other in self.changed(line):
                try:
                    deed = deed_of_line(other)
                except Malformed:
                    bad += 1
                    continue
                # Whatever can be read is the line of what was read.
                good += 1
                self.assertEqual(line_of_deed(deed), other)
        self.assertGreater(min(bad, good), 500)

    def test_no_lines(self):
        for line in ("", " ", "pass", "pass 07", "pass +7", "pass 7 ", " pass 7", "pass  7", "pass seven", "pass 1000001", "Pass 7", "none 7", "pass 7 7", "pass -1",
                     "pass -0", "pass 00", "begin 7 one 900 5 bob", "begin 7 one 900 5 :", "begin 7 one 900 5 bob:", "begin 7 one 900 5 +ann bob:defendant",
                     "begin 7 one 900 5 pam:plaintiff bob:defendant", "begin 7 one 900 5 bob:defendant:x", "begin 7 one 900 5 +bea +ann", "begin 7 one 900", "begin 7 one 900 5 +",
                     "begin 7 one 900 5 court:judge", "begin 7 one 5", "heads one bob pam 2 0", "heads one bob pam 2 0 debt", "heads one bob pam 2 0 debt:0", "heads one bob pam 2 0 debt:-:0",
                     "heads one bob pam 2 0 debt::00", "heads one bob pam 2 0 debt::0:", "heads one bob pam 2 0 costs:debt:1", "heads one bob bob 2 0 debt::0", "heads one",
                     "expense one pam 70", "expense one pam 070 debt", "expense one pam 70 debt costs", "expense one pam debt", "stay 7 all all anew", "stay 7 - - anew",
                     "stay 7 cause - anew", "file 7 - pam claim", "strike 500", "event 1 bob lost law", "judge one debt 2", "judge one debt -", "hearing 8 one 3 9 9",
                     "served one bob answer", "pass 7\n", "pass 7 #", "# pass 7", "strike 00000000000000000000000000003", "pass 99999999999999999999999999999999999999999999"):
            with self.assertRaises(Malformed, msg=line):
                deed_of_line(line)


class Logs(unittest.TestCase):
    def test_texts(self):
        log = [(at, deed) for at, deed in enumerate(DEEDS)]
        kept = list(log)
        text = "".join(f"{at} {line}\n" for at, line in enumerate(LINES))
        self.assertEqual(log_text(log), text)
        self.assertTrue(same(log_of(text), log))
        self.assertEqual(log, kept)
        self.assertEqual((log_text([]), log_of("")), ("", []))
        # It is not looked at whether an office can have such a log.
        log = [(1000000, ("pass", 3)), (0, ("pass", 0)), (0, ("pass", 0))]
        self.assertEqual(log_of(log_text(log)), log)

    def test_no_texts(self):
        text = "7 pass 8\n8 strike 3\n"
        self.assertEqual(log_of(text), [(7, ("pass", 8)), (8, ("strike", 3))])
        for other in (text[:-1], "\n" + text, text + "\n", "\n", text + "# a remark\n", "# a remark\n" + text, "07 pass 8\n", "+7 pass 8\n", "-1 pass 8\n",
                      "1000001 pass 8\n", "pass 8\n", "7\n", "7 \n", "7  pass 8\n", " 7 pass 8\n", "7 pass 8 \n", "7 pass 08\n", "seven pass 8\n", "7:pass 8\n",
                      "7 pass 8\r\n", "7 pass 8", "7 pass 8\n\n8 strike 3\n", "99999999999999999999999 pass 8\n", " ", "7 7 pass 8\n"):
            with self.assertRaises(Malformed, msg=other):
                log_of(other)

    def test_logs_of_offices(self):
        dice = random.Random(203)
        for number in range(25):
            charter = random_charter(dice)
            office, slow = Office(charter), Slow(charter)
            for step in range(30):
                deed = FIRST_DEEDS[step] if step < len(FIRST_DEEDS) else likely_deed(dice, slow)
                if slow.fault(deed) is None:
                    office.do(deed)
                    slow.take(deed)
            log = log_of(log_text(office.log()))
            self.assertTrue(same(log, office.log()))
            self.assertEqual(office_of(charter, log).docket().entries(), office.docket().entries())


class Scripts(unittest.TestCase):
    def test_answers(self):
        office = Office(CHARTER)
        text = ("# a script\npass 7\n\nbegin 7 one 900 5 bob:defendant dan:defendant pam:plaintiff\npass 7\nfile 7 one pam none\nfile  7 one pam claim\n"
                "begin 7 one 0 0\nfile 7 one pam claim\nFile 7\nhello\n# the end\npass 07\nstrike 1")
        told = [(2, "done"), (3, "bad"), (4, "done"), (5, "range"), (6, "none"), (7, "bad"), (8, "refused"), (9, "done"), (10, "bad"), (11, "form"), (13, "form"),
                (14, "done")]
        self.assertTrue(same(run_script(office, text), told))
        self.assertEqual(office.log(), [(0, ("pass", 7)), (7, ("begin", 7, "one", ROLES, 900, (), 5)), (7, ("file", 7, "one", "pam", "claim")), (7, ("strike", 1))])
        self.assertEqual(run_script(office, ""), [])
        self.assertEqual(run_script(office, "# a\n#b"), [])
        self.assertEqual(run_script(office, "\n"), [(1, "bad")])

    def test_much(self):
        office = office_with(("heads", "one", HEADS[0], ("bob", "pam"), (0, 0)))
        answers = run_script(office, "expense one pam 3 debt\n" * 61)
        self.assertEqual(answers, [(at, "done") for at in range(1, 61)] + [(61, "much")])
        kept = office.log()
        with self.assertRaises(TooMuch):
            run_script(office, "pass 9\n" + "#" * 99994)
        self.assertEqual(office.log(), kept)
        self.assertEqual(run_script(office, "pass 9\n" + "#" * 99993), [(1, "done")])

    def test_against_single_deeds(self):
        dice = random.Random(204)
        found = {}
        for number in range(40):
            charter = random_charter(dice)
            slow = Slow(charter)
            rows, told = [], []
            for step in range(40):
                deed = FIRST_DEEDS[step] if step < len(FIRST_DEEDS) else random_deed(dice, slow)
                row = line_of_deed(deed)
                fault = slow.fault(deed)
                if dice.random() < 0.2:
                    at = dice.randrange(len(row))
                    row = row[:at] + dice.choice(("A", "  ", "-", "#", ":", "")) + row[at + 1:]
                    try:
                        deed = deed_of_line(row)
                        fault = slow.fault(deed)
                    except Malformed:
                        fault = Malformed
                rows.append(row)
                good, bad = read_sheet(row)
                if bad:
                    told.append((step + 1, "bad"))
                elif good:
                    told.append((step + 1, "done" if fault is None else NAMES[fault]))
                    if fault is None:
                        slow.take(deed)
            office = Office(charter)
            self.assertEqual(run_script(office, "\n".join(rows)), told)
            self.assertEqual(office.log(), slow.log)
            found.update((answer, True) for _, answer in told)
        self.assertEqual(sorted(found), ["bad", "done", "form", "none", "range", "refused"])


if __name__ == "__main__":
    unittest.main()
