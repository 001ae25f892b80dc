"""Points 41 to 45: what rows do, duties, and what stands on a day."""

import random
import unittest

import court
import makers
from docketloom.docket import Docket, docket_of
from docketloom.errors import Malformed, NotThere
from docketloom.standing import Scene, scene, words

NONE = ((), (), (), ())
LAST = 1000000


def regimes(rule=(10, "days", "next", "no", 0), calendar=NONE):
    return ("old", ((0, (calendar, (("month", rule),))),))


def kind(name, roles=("plaintiff",), needs=(), does=(), opens=(), bars=(), ends=False):
    return (name, roles, needs, does, opens, bars, ends)


def book(*kinds, grace=5, duties=("answer",)):
    return (tuple((duty, "month", grace) for duty in duties), tuple(sorted(kinds)))


CLAIM = kind("claim", opens=(("answer", "defendant"),))
DEFENCE = kind("defence", roles=("defendant",), does=("answer",))
PARTIES = (("ann", "plaintiff"), ("bob", "defendant"), ("cid", "guest"))
BEGIN = ("begin", "one", PARTIES)


def docket(rules, *deeds, told=regimes()):
    """A docket in which each pair (day, deed) is entered on day 0."""
    made = Docket(rules, told)
    for day, deed in deeds:
        made.enter(0, day, deed)
    return made


def file(party, name, cause="one"):
    return ("file", cause, party, name)


def served(party="bob", duty="answer"):
    return ("served", "one", party, duty)


def leave(day, party="bob", duty="answer"):
    return ("leave", "one", party, duty, day)


def word_list(made, d=LAST):
    return [word for _, word in words(made, d, LAST)]


def states(made, days, cause="one"):
    """The states of the only duty on some days."""
    return [scene(made, d, LAST).duties(cause, d)[0][3] for d in days]


class Words(unittest.TestCase):
    def test_begin(self):
        made = docket(book(CLAIM), (5, BEGIN), (6, BEGIN), (6, ("begin", "two", ())), (7, ("begin", "one", ())))
        self.assertEqual(word_list(made), ["stands", "twice", "stands", "twice"])
        self.assertEqual(scene(made, 9, 9).causes(), ["one", "two"])
        self.assertEqual(scene(made, 5, 9).causes(), ["one"])
        self.assertEqual(scene(made, 4, 9).causes(), [])

    def test_absent_ended_stranger(self):
        rules = book(CLAIM, kind("finis", ends=True))
        made = docket(rules, (1, file("ann", "claim")), (1, served()), (1, leave(9)), (2, BEGIN),
                      (3, file("dan", "claim")), (3, served("dan")), (3, leave(9, "dan")), (3, file("ann", "claim", "two")),
                      (4, file("ann", "finis")), (5, file("dan", "claim")), (5, served()), (5, leave(9)), (5, BEGIN))
        self.assertEqual(word_list(made), ["absent"] * 3 + ["stands"] + ["stranger"] * 3 + ["absent", "stands"]
                         + ["ended"] * 3 + ["twice"])
        self.assertIs(scene(made, 3, 9).is_ended("one"), False)
        self.assertIs(scene(made, 4, 9).is_ended("one"), True)

    def test_role_barred_needs(self):
        rules = book(CLAIM, kind("brief", roles=("defendant", "plaintiff"), bars=("brief", "motion")),
                     kind("motion", needs=(("filed", "order"),)), kind("order", roles=("court",)))
        made = docket(rules, (1, BEGIN), (2, file("bob", "motion")), (2, file("ann", "motion")), (3, file("ann", "order")),
                      (3, file("court", "order")), (4, file("ann", "motion")), (5, file("cid", "brief")),
                      (5, file("ann", "brief")), (6, file("bob", "brief")), (6, file("bob", "motion")),
                      (6, file("ann", "motion")), (7, file("cid", "brief")))
        self.assertEqual(word_list(made), ["stands", "role", "needs", "role", "stands", "stands", "role", "stands",
                                           "barred", "role", "barred", "role"])
        self.assertEqual(scene(made, 9, 9).filings("one"), [(4, "order"), (5, "motion"), (7, "brief")])

    def test_a_kind_that_bars_itself_stands_once(self):
        made = docket(book(kind("claim", bars=("claim",))), (1, BEGIN), (2, file("ann", "claim")), (3, file("ann", "claim")))
        self.assertEqual(word_list(made), ["stands", "stands", "barred"])

    def test_barred_comes_ahead_of_needs(self):
        rules = book(kind("claim", bars=("motion",)), kind("motion", needs=(("free", "claim"),)))
        made = docket(rules, (1, BEGIN), (2, file("ann", "claim")), (3, file("ann", "motion")))
        self.assertEqual(word_list(made)[2], "barred")

    def test_noduty_and_short(self):
        made = docket(book(CLAIM), (1, BEGIN), (2, served()), (2, leave(50)), (3, file("ann", "claim")),
                      (4, leave(50)), (4, served("ann")), (5, served()), (6, served()), (6, leave(15)), (6, leave(16)),
                      (7, leave(16)), (7, leave(17)), (22, leave(23)), (29, leave(50)))
        self.assertEqual(word_list(made), ["stands", "noduty", "noduty", "stands", "noduty", "noduty", "stands", "noduty",
                                           "short", "stands", "short", "stands", "stands", "noduty"])

    def test_stays_and_lifts(self):
        made = docket(book(CLAIM), (1, BEGIN), (3, ("stay", "cause", "nowhere", "rests")), (2, ("lift", 1)),
                      (3, ("lift", 0)), (4, ("lift", 1)), (5, ("lift", 1)), (6, ("stay", "all", "", "anew")),
                      (6, ("lift", 6)), (7, ("lift", 6)))
        self.assertEqual(words(made, LAST, 0), [(0, "stands"), (2, "nostay"), (1, "stands"), (3, "nostay"), (4, "stands"),
                                                (5, "nostay"), (6, "stands"), (7, "stands"), (8, "nostay")])
        self.assertEqual(scene(made, 3, 0).stays(), [("cause", "nowhere", 3, None, "rests")])
        self.assertEqual(scene(made, 9, 0).stays(), [("cause", "nowhere", 3, 4, "rests")])
        self.assertEqual(scene(made, 2, 0).stays(), [])

    def test_a_lift_of_a_struck_stay(self):
        made = docket(book(CLAIM), (1, ("stay", "all", "", "rests")), (2, ("lift", 0)), (2, ("strike", 0)))
        self.assertEqual(word_list(made), ["nostay"])

    def test_stands_when_short_of_a_last_day(self):
        # The term of 10 days from the day 999995 on has no last day.
        made = docket(book(CLAIM), (1, BEGIN), (2, file("ann", "claim")), (999995, served()), (999996, leave(999999)))
        self.assertEqual(word_list(made), ["stands", "stands", "stands", "short"])
        self.assertEqual(scene(made, LAST, 0).duties("one", LAST), [(1, "bob", "answer", "open", 999995, None, None)])

    def test_short_under_an_open_stay(self):
        made = docket(book(CLAIM), (1, BEGIN), (2, file("ann", "claim")), (3, served()), (4, ("stay", "all", "", "rests")),
                      (5, leave(50)))
        self.assertEqual(word_list(made)[-1], "short")


class Duties(unittest.TestCase):
    def test_opened_for_a_role(self):
        rules = book(CLAIM, DEFENCE)
        parties = (("ann", "plaintiff"), ("bob", "defendant"), ("dan", "defendant"))
        made = docket(rules, (1, ("begin", "one", parties)), (2, file("ann", "claim")), (3, served("dan")))
        self.assertEqual(scene(made, 3, 0).duties("one", 3),
                         [(1, "bob", "answer", "waiting", None, None, None), (1, "dan", "answer", "open", 3, 13, None)])

    def test_opened_for_the_party_that_files_and_for_the_court(self):
        rules = book(kind("claim", opens=(("answer", ""), ("answer", "court"))))
        made = docket(rules, (1, BEGIN), (2, file("ann", "claim")))
        self.assertEqual(scene(made, 2, 0).duties("one", 2),
                         [(1, "ann", "answer", "open", 2, 12, None), (1, "court", "answer", "open", 2, 12, None)])

    def test_opened_for_the_role_of_the_party_that_files(self):
        rules = book(kind("claim", opens=(("answer", "plaintiff"),)))
        parties = (("ann", "plaintiff"), ("bob", "plaintiff"))
        made = docket(rules, (1, ("begin", "one", parties)), (2, file("ann", "claim")))
        self.assertEqual(scene(made, 2, 0).duties("one", 2),
                         [(1, "ann", "answer", "open", 2, 12, None), (1, "bob", "answer", "waiting", None, None, None)])

    def test_no_further_one_is_opened(self):
        made = docket(book(CLAIM, DEFENCE, grace=5), (1, BEGIN), (2, file("ann", "claim")), (3, file("ann", "claim")),
                      (4, served()), (5, file("ann", "claim")), (19, file("ann", "claim")), (20, file("ann", "claim")),
                      (21, file("bob", "defence")), (22, file("ann", "claim")))
        self.assertEqual(scene(made, 19, 0).duties("one", 19), [(1, "bob", "answer", "overdue", 4, 14, None)])
        self.assertEqual(scene(made, 20, 0).duties("one", 20), [(1, "bob", "answer", "lapsed", 4, 14, None),
                                                               (6, "bob", "answer", "waiting", None, None, None)])
        self.assertEqual(scene(made, 22, 0).duties("one", 22), [(1, "bob", "answer", "lapsed", 4, 14, None),
                                                               (6, "bob", "answer", "done", None, None, 7),
                                                               (8, "bob", "answer", "waiting", None, None, None)])

    def test_graces(self):
        days = (9, 10, 11, 12, 22, 23, 24, 100, LAST)
        for grace, told in ((0, ["waiting", "open", "open", "open", "lapsed", "lapsed", "lapsed", "lapsed", "lapsed"]),
                            (2, ["waiting", "open", "open", "open", "overdue", "overdue", "lapsed", "lapsed", "lapsed"]),
                            (None, ["waiting", "open", "open", "open"] + ["overdue"] * 5)):
            made = docket(book(CLAIM, grace=grace), (1, BEGIN), (2, file("ann", "claim")), (10, served()))
            # The last day is the day 20; it is one later with the leave.
            made.enter(0, 11, leave(21))
            self.assertEqual(states(made, days), told)
            self.assertEqual(states(made, (20, 21)), ["open", "open"])

    def test_done_and_late(self):
        for day, state in ((3, "done"), (14, "done"), (15, "late"), (19, "late"), (20, "lapsed")):
            made = docket(book(CLAIM, DEFENCE), (1, BEGIN), (2, file("ann", "claim")), (4, served()),
                          (day, file("bob", "defence")))
            number = 3 if state != "lapsed" else None
            start, last = (4, 14) if day > 4 else (None, None)
            row = (1, "bob", "answer", state, start, last, number)
            self.assertEqual(scene(made, day, 0).duties("one", day), [row])
            if day > 4:
                self.assertEqual(scene(made, 500, 0).duties("one", 500), [row])

    def test_only_the_own_duties_are_done(self):
        parties = (("ann", "plaintiff"), ("bob", "defendant"), ("dan", "defendant"))
        made = docket(book(CLAIM, DEFENCE), (1, ("begin", "one", parties)), (2, file("ann", "claim")),
                      (3, file("dan", "defence")))
        self.assertEqual([row[1:4] for row in scene(made, 3, 0).duties("one", 3)],
                         [("bob", "answer", "waiting"), ("dan", "answer", "done")])

    def test_done_ahead_of_opened(self):
        rules = book(CLAIM, kind("defence", roles=("defendant",), does=("answer",), opens=(("answer", ""),)))
        made = docket(rules, (1, BEGIN), (2, file("ann", "claim")), (3, file("bob", "defence")), (4, file("bob", "defence")))
        self.assertEqual(scene(made, 4, 0).duties("one", 4), [(1, "bob", "answer", "done", None, None, 2),
                                                             (2, "bob", "answer", "done", 3, 13, 3),
                                                             (3, "bob", "answer", "open", 4, 14, None)])

    def test_void(self):
        rules = book(CLAIM, kind("finis", ends=True, opens=(("answer", ""), ("plea", "defendant"))), grace=0,
                     duties=("answer", "plea"))
        made = docket(rules, (1, BEGIN), (2, file("ann", "claim")), (3, served()), (7, file("ann", "finis")))
        self.assertEqual(scene(made, 500, 0).duties("one", 500), [(1, "bob", "answer", "void", 3, 13, 3),
                                                                 (3, "ann", "answer", "void", 7, 17, 3),
                                                                 (3, "bob", "plea", "void", None, None, 3)])
        made = docket(rules, (1, BEGIN), (2, file("ann", "claim")), (3, served()), (14, file("ann", "finis")))
        self.assertEqual(scene(made, 500, 0).duties("one", 500)[0], (1, "bob", "answer", "lapsed", 3, 13, None))

    def test_overdue_ones_are_void(self):
        rules = book(CLAIM, kind("finis", ends=True), grace=None)
        made = docket(rules, (1, BEGIN), (2, file("ann", "claim")), (3, served()), (50, file("ann", "finis")))
        self.assertEqual(scene(made, 500, 0).duties("one", 500), [(1, "bob", "answer", "void", 3, 13, 3)])

    def test_open_again_by_leave(self):
        made = docket(book(CLAIM, DEFENCE, grace=5), (1, BEGIN), (2, file("ann", "claim")), (3, served()), (15, leave(20)),
                      (25, leave(30)), (31, file("bob", "defence")))
        self.assertEqual(states(made, (13, 14, 15, 20, 21, 25, 30)),
                         ["open", "overdue", "open", "open", "overdue", "open", "open"])
        self.assertEqual(scene(made, 31, 0).duties("one", 31), [(1, "bob", "answer", "late", 3, 30, 5)])

    def test_leave_that_is_over(self):
        made = docket(book(CLAIM, grace=50), (1, BEGIN), (2, file("ann", "claim")), (3, served()), (20, leave(16)))
        self.assertEqual(word_list(made)[-1], "stands")
        self.assertEqual(scene(made, 20, 0).duties("one", 20), [(1, "bob", "answer", "overdue", 3, 16, None)])

    def test_needs_for_duties(self):
        named = ("done", "lapsed", "open", "overdue", "waiting")
        rules = book(CLAIM, DEFENCE, *(kind("x" + word, needs=((word, "answer"),)) for word in named), grace=3)

        def told(day, *more):
            answers = []
            for word in named:
                made = docket(rules, (1, BEGIN), (2, file("ann", "claim")), *more, (day, file("ann", "x" + word)))
                # The entry that was entered last need not be the last row.
                answers.append(dict(words(made, LAST, 0))[2 + len(more)] == "stands")
            return [word for word, holds in zip(named, answers) if holds]
        self.assertEqual(told(1), [])
        self.assertEqual(told(2), ["waiting"])
        self.assertEqual(told(4, (4, served())), ["open"])
        self.assertEqual(told(14, (4, served())), ["open"])
        self.assertEqual(told(15, (4, served())), ["overdue"])
        self.assertEqual(told(18, (4, served())), ["lapsed"])
        self.assertEqual(told(18, (4, served()), (5, file("bob", "defence"))), ["done"])
        self.assertEqual(told(18, (4, served()), (16, file("bob", "defence"))), ["done"])

    def test_order_of_duty_rows(self):
        rules = book(kind("claim", opens=(("answer", "defendant"), ("answer", "plaintiff"), ("plea", "defendant"))),
                     kind("brief", opens=(("answer", "court"),)), duties=("answer", "plea"))
        # The entry 1 holds for a later day than the entry 2.
        made = docket(rules, (1, BEGIN), (5, file("ann", "claim")), (3, file("ann", "brief")))
        self.assertEqual([row[:3] for row in scene(made, 9, 0).duties("one", 9)],
                         [(2, "court", "answer"), (1, "ann", "answer"), (1, "bob", "answer"), (1, "bob", "plea")])


class Stays(unittest.TestCase):
    RULES = book(CLAIM, DEFENCE, grace=5)

    def last(self, made, d=LAST):
        return scene(made, d, 0).duties("one", d)[0][3:6]

    def started(self, *more, start=10):
        return docket(self.RULES, (1, BEGIN), (2, file("ann", "claim")), (start, served()), *more)

    def test_begun_ahead_of_the_start(self):
        made = docket(self.RULES, (1, BEGIN), (2, file("ann", "claim")), (5, ("stay", "all", "", "rests")), (10, served()),
                      (15, ("lift", 2)))
        self.assertEqual(self.last(made, 14), ("open", 10, None))
        self.assertEqual(self.last(made, 15), ("open", 10, 24))

    def test_begun_while_it_was_open(self):
        for mode, last in (("rests", 25), ("anew", 34)):
            made = self.started((20, ("stay", "party", "bob", mode)), (25, ("lift", 3)))
            self.assertEqual(self.last(made, 19), ("open", 10, 20))
            self.assertEqual(self.last(made, 20), ("open", 10, None))
            self.assertEqual(self.last(made, 25), ("open", 10, last))

    def test_not_open_again_by_a_stay(self):
        made = self.started((21, ("stay", "all", "", "anew")))
        self.assertEqual([self.last(made, d) for d in (20, 21, 25, 26)],
                         [("open", 10, 20), ("overdue", 10, 20), ("overdue", 10, 20), ("lapsed", 10, 20)])

    def test_open_again_by_leave_and_stayed(self):
        made = self.started((22, leave(24)), (23, ("stay", "all", "", "rests")), (40, ("lift", 4)))
        # The stay began behind the full day: it changes nothing of the term.
        self.assertEqual(self.last(made, 24), ("open", 10, 24))
        self.assertEqual(self.last(made, 25), ("overdue", 10, 24))

    def test_what_a_stay_touches(self):
        for scope, name, last in (("all", "", None), ("cause", "one", None), ("cause", "two", 20), ("party", "bob", None),
                                  ("party", "ann", 20), ("cause", "bob", 20), ("party", "one", 20)):
            made = self.started((12, ("stay", scope, name, "rests")))
            self.assertEqual(self.last(made, 20), ("open", 10, last), (scope, name))

    def test_same_day(self):
        # On the same day, the entry with the lower number is played first.
        made = docket(self.RULES, (1, BEGIN), (2, file("ann", "claim")), (10, ("stay", "all", "", "anew")), (10, served()),
                      (12, ("lift", 2)))
        self.assertEqual(self.last(made), ("lapsed", 10, 21))
        made = docket(self.RULES, (1, BEGIN), (2, file("ann", "claim")), (10, served()), (10, ("stay", "all", "", "anew")),
                      (10, ("lift", 3)))
        self.assertEqual(self.last(made), ("lapsed", 10, 20))

    def test_done_while_it_stood_still(self):
        made = self.started((12, ("stay", "all", "", "rests")), (13, file("bob", "defence")), (20, ("lift", 3)))
        self.assertEqual(scene(made, 50, 0).duties("one", 50), [(1, "bob", "answer", "done", 10, None, 4)])

    def test_waiting_while_stayed_and_lifted(self):
        made = docket(self.RULES, (1, BEGIN), (2, file("ann", "claim")), (3, ("stay", "all", "", "rests")), (7, ("lift", 2)),
                      (10, served()))
        self.assertEqual(self.last(made), ("lapsed", 10, 20))

    def test_a_hundred_stays(self):
        long = regimes((200, "days", "next", "no", 0))
        made = Docket(self.RULES, long)
        made.enter(0, 1, BEGIN)
        made.enter(0, 2, file("ann", "claim"))
        made.enter(0, 10, served())
        for at in range(100):
            number = made.enter(0, 20 + 2 * at, ("stay", "all", "", "rests"))
            made.enter(0, 21 + 2 * at, ("lift", number))
        while len(made.entries()) < 500:
            made.enter(0, 300, file("ann", "claim"))
        self.assertEqual(self.last(made, 299), ("open", 10, 310))
        self.assertEqual(self.last(made, 310), ("open", 10, 310))
        self.assertEqual(len(scene(made, 310, 0).filings("one")), 298)
        self.assertEqual(len(scene(made, 310, 0).stays()), 100)

    def test_leave_and_stay(self):
        made = self.started((11, leave(50)), (12, ("stay", "all", "", "rests")), (14, ("lift", 4)))
        self.assertEqual(self.last(made, 11), ("open", 10, 50))
        self.assertEqual(self.last(made, 12), ("open", 10, None))
        self.assertEqual(self.last(made, 14), ("open", 10, 50))


class Scenes(unittest.TestCase):
    def test_errors_of_play(self):
        made = docket(book(CLAIM), (5, BEGIN), (6, file("ann", "claim")), (7, ("strike", 0)), (7, ("amend", 1, 8)))
        stage = Scene(made)
        for number in (-1, 4, 499):
            with self.assertRaises(NotThere):
                stage.play(number, 5)
        for number in (2, 3):
            with self.assertRaises(Malformed):
                stage.play(number, 5)
        self.assertEqual(stage.play(0, 100), "stands")
        with self.assertRaises(Malformed):
            stage.play(1, 99)
        self.assertEqual(stage.filings("one"), [])
        self.assertEqual(stage.play(1, 100), "stands")
        self.assertEqual(stage.filings("one"), [(1, "claim")])

    def test_day_nought(self):
        made = docket(book(CLAIM), (0, BEGIN), (0, file("ann", "claim")), (0, served()))
        self.assertEqual(word_list(made, 0), ["stands"] * 3)
        self.assertEqual(scene(made, 0, 0).duties("one", 0), [(1, "bob", "answer", "open", 0, 10, None)])

    def test_at_first(self):
        stage = Scene(docket(book(CLAIM)))
        self.assertEqual((stage.causes(), stage.stays()), ([], []))
        with self.assertRaises(NotThere):
            stage.is_ended("one")
        with self.assertRaises(NotThere):
            stage.filings("one")
        with self.assertRaises(NotThere):
            stage.duties("one", 5)

    def test_entries_that_come_later_can_be_played(self):
        made = docket(book(CLAIM), (5, BEGIN))
        stage = Scene(made)
        stage.play(0, 5)
        made.enter(9, 6, file("ann", "claim"))
        self.assertEqual(stage.play(1, 6), "stands")

    def test_answers_may_be_changed(self):
        made = docket(book(CLAIM), (5, BEGIN), (6, file("ann", "claim")), (7, ("stay", "all", "", "rests")))
        stage = scene(made, 9, 9)
        for _ in range(2):
            for told, expected in ((stage.causes(), ["one"]), (stage.filings("one"), [(1, "claim")]),
                                   (stage.duties("one", 9), [(1, "bob", "answer", "waiting", None, None, None)]),
                                   (stage.stays(), [("all", "", 7, None, "rests")]),
                                   (words(made, 9, 9), [(0, "stands"), (1, "stands"), (2, "stands")])):
                self.assertEqual(told, expected)
                told.clear()

    def test_as_known(self):
        made = Docket(book(CLAIM), regimes())
        made.enter(10, 5, BEGIN)
        made.enter(11, 6, file("ann", "claim"))
        made.enter(12, 5, ("strike", 1))
        made.enter(13, 7, ("strike", 2))
        made.enter(14, 7, ("amend", 0, 8))
        self.assertEqual([words(made, 9, k) for k in range(9, 15)],
                         [[], [(0, "stands")], [(0, "stands"), (1, "stands")], [(0, "stands")],
                          [(0, "stands"), (1, "stands")], [(1, "absent"), (0, "stands")]])
        self.assertEqual(words(made, 5, 11), [(0, "stands")])
        self.assertEqual(scene(made, 5, 11).filings("one"), [])

    def test_row_by_row(self):
        dice = random.Random(45)
        for _ in range(25):
            rules = makers.rule_book(dice)
            made = docket_of(rules, makers.full_regimes(dice, 200), makers.entries(dice, rules, 200, 50))
            k = made.entries()[-1][1]
            rows = made.rows(k)
            stage = Scene(made)
            told = [(number, stage.play(number, day)) for number, day in rows]
            self.assertEqual(told, words(made, LAST, k))
            other = scene(made, LAST, k)
            for cause in stage.causes():
                self.assertEqual(stage.duties(cause, 400), other.duties(cause, 400))

    def test_nothing_but_the_cause_and_the_stays_matters(self):
        dice = random.Random(450)
        for _ in range(25):
            rules = makers.rule_book(dice)
            told = makers.full_regimes(dice, 200)
            entries = makers.entries(dice, rules, 200, 60)
            made = docket_of(rules, told, entries)
            stage = scene(made, 260, 300)
            alone = Scene(made)
            for number, day in made.rows(300):
                deed = made.entries()[number][3]
                if day <= 260 and (deed[0] in ("stay", "lift") or deed[1] == "one"):
                    alone.play(number, day)
            if "one" in stage.causes():
                self.assertEqual(stage.duties("one", 260), alone.duties("one", 260))
                self.assertEqual(stage.filings("one"), alone.filings("one"))


class AgainstThePlainWay(unittest.TestCase):
    def test_dockets(self):
        dice = random.Random(41)
        seen = set()
        for near in (150, 730500, 999960) * 60:
            rules = makers.rule_book(dice)
            told = makers.full_regimes(dice, near)
            entries = makers.entries(dice, rules, near, dice.choice((30, 60, 90)))
            made = docket_of(rules, told, entries)
            for k in (entries[len(entries) // 2][1], entries[-1][1]):
                rows = court.rows(entries, k)
                order = [number for number, _ in rows]
                for d in (max(0, near - 30), near, min(LAST, near + 60)):
                    other, expected = court.court(rules, told, entries, d, k)
                    self.assertEqual(words(made, d, k), expected)
                    stage = scene(made, d, k)
                    self.assertEqual(stage.causes(), sorted(other.begun))
                    self.assertEqual(stage.stays(), other.stays())
                    for cause in other.begun:
                        self.assertEqual(stage.is_ended(cause), other.over[cause])
                        self.assertEqual(stage.filings(cause), other.filed[cause])
                        duties = stage.duties(cause, d)
                        self.assertEqual(duties, other.duty_rows(cause, d, order))
                        seen |= {row[3] for row in duties}
                    seen |= {word for _, word in expected}
        # The random dockets come upon every word and every state.
        self.assertEqual(seen, {"stands", "twice", "absent", "ended", "stranger", "role", "barred", "needs", "noduty",
                                "short", "nostay", "waiting", "open", "overdue", "lapsed", "done", "late", "void"})


if __name__ == "__main__":
    unittest.main()
