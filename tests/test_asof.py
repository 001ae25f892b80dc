"""Points 46 to 48: grounds, what was overtaken, turns, news, windows."""

import random
import unittest

import court
import makers
from docketloom.asof import duty_state, grounds, news, overtaken, tells, turns, windows
from docketloom.docket import Docket, docket_of
from docketloom.errors import NotThere, OutOfRange, TooMuch
from docketloom.standing import Scene, scene, words

NONE = ((), (), (), ())
LAST = 1000000


def regimes(rule=(10, "days", "next", "no", 0)):
    return ("old", ((0, (NONE, (("month", rule),))),))


def kind(name, roles=("plaintiff",), needs=(), does=(), opens=(), bars=(), ends=False):
    return (name, roles, needs, does, opens, bars, ends)


def book(*kinds, grace=5, duties=("answer",)):
    return (tuple((duty, "month", grace) for duty in duties), tuple(sorted(kinds)))


CLAIM = kind("claim", opens=(("answer", "defendant"),))
DEFENCE = kind("defence", roles=("defendant",), does=("answer",))
BEGIN = ("begin", "one", (("ann", "plaintiff"), ("bob", "defendant"), ("cid", "guest")))
OTHER = ("begin", "two", (("ann", "plaintiff"), ("bob", "defendant")))


def docket(rules, *deeds, told=regimes()):
    """A docket in which each pair (day, deed) is entered on day 0; a triple tells the day on which it is entered."""
    made = Docket(rules, told)
    for row in deeds:
        entered, day, deed = row if len(row) == 3 else (0,) + row
        made.enter(entered, day, deed)
    return made


def file(party, name, cause="one"):
    return ("file", cause, party, name)


def served(party="bob", duty="answer", cause="one"):
    return ("served", cause, party, duty)


def leave(day, party="bob", duty="answer"):
    return ("leave", "one", party, duty, day)


ANSWER = ("one", 1, "bob", "answer")


def plain_row(made, rows, key, d):
    """The duty row that playing these rows alone tells, or None."""
    told = court.Court(made.book, made.regimes)
    for number, day in rows:
        told.play(number, day, made.entries()[number][3])
    if key[0] not in told.begun:
        return None
    found = [row for row in told.duty_rows(key[0], d, [number for number, _ in rows]) if row[:3] == key[1:]]
    assert len(found) <= 1
    return found[0] if found else None


def played(made, d, k):
    return [(number, day) for number, day in court.rows(made.entries(), k) if day <= d]


def plain_grounds(made, key, d, k):
    """Point 46 word for word: of all rows, the last one without which the same is told, again and again."""
    rows = played(made, d, k)
    told = plain_row(made, rows, key, d)
    while True:
        for at in range(len(rows) - 1, -1, -1):
            if plain_row(made, rows[:at] + rows[at + 1:], key, d) == told:
                rows = rows[:at] + rows[at + 1:]
                break
        else:
            return sorted(number for number, _ in rows)


class Grounds(unittest.TestCase):
    def test_ordinary(self):
        made = docket(book(CLAIM, DEFENCE), (1, BEGIN), (2, file("ann", "claim")), (2, OTHER), (3, served()),
                      (4, ("stay", "party", "ann", "rests")), (5, ("stay", "party", "bob", "rests")), (6, ("lift", 5)),
                      (7, file("cid", "claim")), (8, leave(9)), (8, leave(20)), (9, file("bob", "defence")))
        key = ANSWER
        self.assertEqual(grounds(made, *key, 2, 0), [0, 1])
        self.assertEqual(grounds(made, *key, 4, 0), [0, 1, 3])
        self.assertEqual(grounds(made, *key, 5, 0), [0, 1, 3, 5])
        self.assertEqual(grounds(made, *key, 6, 0), [0, 1, 3, 5, 6])
        self.assertEqual(grounds(made, *key, 8, 0), [0, 1, 3, 9])
        self.assertEqual(grounds(made, *key, 9, 0), [0, 1, 3, 9, 10])
        self.assertEqual(tells(made, [0, 1, 3, 9, 10], *key, 9, 0), (1, "bob", "answer", "done", 3, 20, 10))

    def test_the_last_one_is_left_out_first(self):
        # Either leave alone tells the same, and so does either beginning: the later one goes.
        made = docket(book(CLAIM), (1, BEGIN), (1, BEGIN), (2, file("ann", "claim")), (3, served()), (4, leave(20)),
                      (5, leave(20)), told=regimes())
        self.assertEqual(grounds(made, "one", 2, "bob", "answer", 9, 0), [0, 2, 3, 4])
        # The order is that of the rows, by their days.
        made = docket(book(CLAIM), (1, BEGIN), (2, file("ann", "claim")), (3, served()), (5, leave(20)), (4, leave(20)))
        self.assertEqual(grounds(made, *ANSWER, 9, 0), [0, 1, 2, 4])

    def test_what_was_needed_may_be_left_out_later(self):
        # The stay alone is needed while its lift is there; the pair of both is not: first the lift goes, if without
        # it the row is the same. Here the row stands done either way.
        rules = book(CLAIM, DEFENCE, kind("note", roles=("defendant",), needs=(("filed", "brief"),), does=("answer",)),
                     kind("brief"))
        made = docket(rules, (1, BEGIN), (2, file("ann", "claim")), (3, file("ann", "brief")), (4, file("bob", "note")),
                      (5, file("bob", "defence")))
        self.assertEqual(grounds(made, *ANSWER, 9, 0), [0, 1, 2, 3])
        self.assertEqual(grounds(made, *ANSWER, 3, 0), [0, 1])

    def test_against_the_plain_way(self):
        dice = random.Random(46)
        many = 0
        left_out = 0
        for near in (150, 730500, 999960) * 50:
            rules = makers.rule_book(dice)
            made = docket_of(rules, makers.full_regimes(dice, near), makers.entries(dice, rules, near, 24))
            k = made.entries()[dice.choice((16, 23, 23))][1]
            d = near + dice.choice((-20, 0, 20, 40))
            stage = scene(made, d, k)
            keys = [(cause,) + row[:3] for cause in stage.causes() for row in stage.duties(cause, d)]
            for key in dice.sample(keys, min(2, len(keys))):
                found = grounds(made, *key, d, k)
                self.assertEqual(found, plain_grounds(made, key, d, k))
                told = [row for row in stage.duties(key[0], d) if row[:3] == key[1:]][0]
                self.assertEqual(tells(made, found, *key, d, k), told)
                for number in found:
                    self.assertNotEqual(tells(made, [other for other in found if other != number], *key, d, k), told)
                many += 1
                left_out += len(played(made, d, k)) - len(found)
        self.assertGreater(many, 60)
        self.assertGreater(left_out, many)

    def test_too_much(self):
        begun = ((1, BEGIN), (2, file("ann", "claim")), (2, served()))
        rules = book(CLAIM, DEFENCE)
        others = ((2, OTHER),) + tuple((2, file("ann", "claim", "two")) for _ in range(30))
        made = docket(rules, *begun, *others, *[(2, file("cid", "claim")) for _ in range(37)])
        self.assertEqual(grounds(made, *ANSWER, 9, 0), [0, 1, 2])
        # A row of another day and one of another cause do not count.
        made.enter(0, 10, file("ann", "claim"))
        made.enter(0, 2, file("ann", "claim", "two"))
        self.assertEqual(grounds(made, *ANSWER, 9, 0), [0, 1, 2])
        with self.assertRaises(TooMuch):
            grounds(made, *ANSWER, 10, 0)
        with self.assertRaises(NotThere):
            grounds(made, "one", 1, "ann", "answer", 10, 0)
        for deed in (("stay", "party", "dan", "rests"), ("lift", 0), file("cid", "claim")):
            made = docket(rules, *begun, *others, *[(2, file("cid", "claim")) for _ in range(37)])
            number = made.enter(5, 3, deed)
            self.assertEqual(grounds(made, *ANSWER, 9, 4), [0, 1, 2])
            with self.assertRaises(TooMuch):
                grounds(made, *ANSWER, 9, 5)
            made.enter(6, 3, ("strike", number))
            self.assertEqual(grounds(made, *ANSWER, 9, 6), [0, 1, 2])

    def test_forty_rows_that_are_all_needed(self):
        kinds = [kind(chr(97 + at) * 2, needs=(("filed", chr(96 + at) * 2),) if at else ()) for at in range(12)]
        last = kind("zz", needs=(("filed", "ll"),), opens=(("answer", "defendant"),))
        made = docket(book(*kinds, last), (1, BEGIN), *[(2, file("ann", chr(97 + at) * 2)) for at in range(12)],
                      (3, file("ann", "zz")), (4, served()))
        for at in range(25):
            made.enter(0, 5, leave(20 + at))
        self.assertEqual(len(made.entries()), 40)
        self.assertEqual(grounds(made, "one", 13, "bob", "answer", 9, 0), list(range(15)) + [39])

    def test_not_there(self):
        made = docket(book(CLAIM), (1, BEGIN), (2, file("ann", "claim")), (3, served()))
        for key in (("two", 1, "bob", "answer"), ("one", 0, "bob", "answer"), ("one", 7, "bob", "answer"),
                    ("one", 1, "ann", "answer"), ("one", 1, "bob", "claim"), ("one", -1, "bob", "answer")):
            with self.assertRaises(NotThere):
                grounds(made, *key, 9, 0)
            self.assertIsNone(tells(made, [0, 1, 2], *key, 9, 0))
            self.assertEqual(duty_state(made, *key, 9, 0), "none")
        with self.assertRaises(NotThere):
            grounds(made, *ANSWER, 1, 0)


class Tells(unittest.TestCase):
    def test_numbers(self):
        made = docket(book(CLAIM, DEFENCE), (1, BEGIN), (2, file("ann", "claim")), (3, served()), (1, ("strike", 2)),
                      (4, served()), (7, 5, file("bob", "defence")), (9, 9, OTHER))
        waiting = (1, "bob", "answer", "waiting", None, None, None)
        opened = (1, "bob", "answer", "open", 4, 14, None)
        self.assertEqual(tells(made, [0, 1], *ANSWER, 9, 7), waiting)
        self.assertEqual(tells(made, [1, 0, 0], *ANSWER, 9, 7), waiting)
        self.assertEqual(tells(made, [0, 1, 2], *ANSWER, 9, 7), waiting)
        self.assertEqual(tells(made, [0, 1, 3, 4, 6, 7, 499, -1, 10 ** 9], *ANSWER, 9, 7), opened)
        self.assertEqual(tells(made, [0, 1, 4, 5], *ANSWER, 9, 6), opened)
        self.assertEqual(tells(made, [0, 1, 4, 5], *ANSWER, 4, 7), opened)
        self.assertEqual(tells(made, [0, 1, 4, 5], *ANSWER, 5, 7), (1, "bob", "answer", "done", 4, 14, 5))
        self.assertEqual(tells(made, [0, 1, 4], *ANSWER, 3, 7), waiting)
        for numbers in ([], [0], [1], [1, 4], [0, 4], [499]):
            self.assertIsNone(tells(made, numbers, *ANSWER, 9, 7))

    def test_against_playing(self):
        dice = random.Random(461)
        for _ in range(40):
            rules = makers.rule_book(dice)
            made = docket_of(rules, makers.full_regimes(dice, 200), makers.entries(dice, rules, 200, 30))
            stage = scene(made, 240, LAST)
            keys = [(cause,) + row[:3] for cause in stage.causes() for row in stage.duties(cause, 240)]
            for key in keys:
                numbers = dice.sample(range(-3, 40), 30)
                rows = [row for row in played(made, 240, LAST) if row[0] in numbers]
                self.assertEqual(tells(made, numbers, *key, 240, LAST), plain_row(made, rows, key, 240))


class States(unittest.TestCase):
    def test_states(self):
        made = docket(book(CLAIM), (1, BEGIN), (2, file("ann", "claim")), (5, 3, served()))
        told = [(d, k, duty_state(made, *ANSWER, d, k)) for d in (1, 2, 3, 13, 14, 18, 19) for k in (4, 5)]
        self.assertEqual([state for _, k, state in told if k == 4], ["none"] + ["waiting"] * 6)
        self.assertEqual([state for _, k, state in told if k == 5],
                         ["none", "waiting", "open", "open", "overdue", "overdue", "lapsed"])


class Overtaken(unittest.TestCase):
    def test_strikes(self):
        made = docket(book(CLAIM), (1, 1, BEGIN), (2, 2, file("ann", "claim")), (3, 3, served()), (5, 5, ("strike", 1)),
                      (6, 6, ("strike", 3)))
        self.assertEqual([overtaken(made, k) for k in range(8)], [[], [], [], [], [], [2], [], []])

    def test_amendments(self):
        made = docket(book(CLAIM), (1, 1, BEGIN), (2, 2, file("ann", "claim")), (3, 3, served()), (5, 5, ("amend", 0, 3)),
                      (6, 6, ("amend", 2, 1)), (7, 7, ("amend", 1, 4)))
        # Behind the amendment of the beginning, only the claim is ahead of it.
        self.assertEqual([overtaken(made, k) for k in (4, 5, 6, 7)], [[], [1, 2], [1, 2], [2]])

    def test_held_earlier(self):
        rules = book(CLAIM, kind("finis", ends=True))
        made = docket(rules, (1, 1, BEGIN), (5, 5, file("ann", "claim")), (6, 4, file("ann", "finis")))
        self.assertEqual([overtaken(made, k) for k in (5, 6)], [[], [1]])
        # One that holds for a later day than it is known has its word all the same.
        made = docket(rules, (1, 50, BEGIN), (2, 60, file("ann", "claim")), (3, 55, file("ann", "finis")))
        self.assertEqual([overtaken(made, k) for k in (2, 3, 60)], [[], [1], [1]])

    def test_struck_on_the_day_of_its_entry(self):
        made = docket(book(CLAIM), (1, 1, BEGIN), (2, 2, file("ann", "claim")), (2, 2, ("strike", 1)), (3, 3, ("strike", 2)))
        self.assertEqual([overtaken(made, k) for k in (1, 2, 3)], [[], [], [1]])

    def test_corrections_are_none(self):
        made = docket(book(CLAIM), (1, 1, BEGIN), (2, 2, ("strike", 0)), (3, 3, ("amend", 0, 1)), (4, 4, ("strike", 2)),
                      (4, 4, ("strike", 1)))
        self.assertEqual([overtaken(made, k) for k in (1, 2, 3, 4)], [[], [], [], []])

    def test_against_the_plain_way(self):
        dice = random.Random(47)
        told = 0
        for _ in range(40):
            rules = makers.rule_book(dice)
            regime_list = makers.full_regimes(dice, 200)
            entries = makers.entries(dice, rules, 200, 40)
            made = docket_of(rules, regime_list, entries)
            for k in (0, entries[20][1], entries[-1][1], LAST):
                now = dict(court.court(rules, regime_list, entries, LAST, k)[1])
                found = []
                for number, entered, _, deed in entries:
                    if number in now:
                        then = dict(court.court(rules, regime_list, entries, LAST, entered)[1])
                        if then.get(number) != now[number]:
                            found.append(number)
                self.assertEqual(overtaken(made, k), found)
                told += len(found)
        self.assertGreater(told, 40)


class Turns(unittest.TestCase):
    def test_ordinary(self):
        made = docket(book(CLAIM, DEFENCE), (1, 1, BEGIN), (2, 2, file("ann", "claim")), (4, 4, served()),
                      (6, 6, ("strike", 1)), (7, 7, ("strike", 3)), (8, 8, file("bob", "defence")), (8, 8, ("amend", 5, 20)),
                      (9, 9, ("strike", 6)))
        self.assertEqual(turns(made, *ANSWER, 10), [(2, "waiting"), (4, "open"), (6, "none"), (7, "open"), (9, "done")])
        self.assertEqual(turns(made, *ANSWER, 3), [(2, "waiting"), (6, "none"), (7, "waiting")])
        self.assertEqual(turns(made, *ANSWER, 15), [(2, "waiting"), (4, "overdue"), (6, "none"), (7, "overdue"),
                                                   (9, "done")])
        self.assertEqual(turns(made, *ANSWER, 20), [(2, "waiting"), (4, "lapsed"), (6, "none"), (7, "lapsed"),
                                                   (9, "done")])
        self.assertEqual(turns(made, *ANSWER, 1), [])
        self.assertEqual(turns(made, "one", 1, "ann", "answer", 10), [])
        self.assertEqual(turns(made, "two", 1, "bob", "answer", 10), [])

    def test_of_one_day(self):
        # What changes and changes back on one day is no turn.
        made = docket(book(CLAIM), (1, 1, BEGIN), (1, 1, file("ann", "claim")), (3, 3, ("strike", 1)),
                      (3, 3, ("strike", 2)))
        self.assertEqual(turns(made, *ANSWER, 5), [(1, "waiting")])

    def test_against_the_states(self):
        dice = random.Random(471)
        longest = 0
        for _ in range(40):
            rules = makers.rule_book(dice)
            entries = makers.entries(dice, rules, 200, 40)
            made = docket_of(rules, makers.full_regimes(dice, 200), entries)
            keys = set()
            for _, k, _, _ in entries:
                stage = scene(made, 230, k)
                keys |= {(cause,) + row[:3] for cause in stage.causes() for row in stage.duties(cause, 230)}
            for key in sorted(keys)[:6]:
                told = []
                for k in range(100, entries[-1][1] + 3):
                    state = duty_state(made, *key, 230, k)
                    if state != duty_state(made, *key, 230, k - 1):
                        told.append((k, state))
                self.assertEqual(turns(made, *key, 230), told)
                longest = max(longest, len(told))
        self.assertGreater(longest, 2)


class News(unittest.TestCase):
    def test_ordinary(self):
        made = docket(book(CLAIM, DEFENCE), (1, 1, BEGIN), (2, 2, file("ann", "claim")), (3, 3, OTHER),
                      (4, 4, file("ann", "claim", "two")), (5, 5, served()), (6, 6, file("bob", "defence")),
                      (7, 7, ("strike", 3)))
        one = ("one", 1, "bob", "answer")
        two = ("two", 3, "bob", "answer")
        self.assertEqual(news(made, 9, 0, 2), [one + ("none", "waiting")])
        self.assertEqual(news(made, 9, 2, 5), [one + ("waiting", "open"), two + ("none", "waiting")])
        self.assertEqual(news(made, 9, 0, 9), [one + ("none", "done")])
        self.assertEqual(news(made, 9, 4, 7), [one + ("waiting", "done"), two + ("waiting", "none")])
        self.assertEqual(news(made, 9, 7, 8), [])
        self.assertEqual(news(made, 3, 0, 9), [one + ("none", "waiting")])
        self.assertEqual(news(made, 50, 4, 5), [one + ("waiting", "lapsed")])

    def test_out_of_range(self):
        made = docket(book(CLAIM), (1, 1, BEGIN))
        for k, m in ((5, 5), (5, 4), (LAST, 0)):
            with self.assertRaises(OutOfRange):
                news(made, 9, k, m)
        self.assertEqual(news(made, 9, 5, 6), [])

    def test_against_the_states(self):
        dice = random.Random(472)
        seen = set()
        for _ in range(60):
            rules = makers.rule_book(dice)
            entries = makers.entries(dice, rules, 200, 40)
            made = docket_of(rules, makers.full_regimes(dice, 200), entries)
            k, m = entries[dice.randint(0, 20)][1], entries[-1][1]
            if k == m:
                continue
            found = set()
            for known in (k, m):
                stage = scene(made, 220, known)
                for cause in stage.causes():
                    for row in stage.duties(cause, 220):
                        key = (cause,) + row[:3]
                        pair = (duty_state(made, *key, 220, k), duty_state(made, *key, 220, m))
                        if pair[0] != pair[1]:
                            found.add(key + pair)
            self.assertEqual(news(made, 220, k, m), sorted(found))
            seen |= {told[4] for told in found} | {told[5] for told in found}
        self.assertLess({"none", "waiting", "open", "done"}, seen)


def stands(made, cause, party, name, day, k):
    """True if a filing that is entered as the next entry, and is known, stands."""
    rows = [(number, held) for number, held in made.rows(k) if held <= day]
    told = court.Court(made.book, made.regimes)
    for number, held in rows:
        told.play(number, held, made.entries()[number][3])
    return told.play(len(made.entries()), day, ("file", cause, party, name)) == "stands"


class Windows(unittest.TestCase):
    RULES = book(CLAIM, DEFENCE, kind("brief", roles=("defendant", "plaintiff"), bars=("note",)), kind("finis", ends=True),
                 kind("note", roles=("plaintiff",)), *[kind("x" + word, needs=((word, "answer"),)) for word in
                                                       ("done", "lapsed", "open", "overdue", "waiting")],
                 kind("xfiled", needs=(("filed", "brief"),)), kind("xfree", needs=(("free", "brief"),)))

    def told(self, made, name, d=0, party="ann", k=0):
        return windows(made, "one", party, name, d, k)

    def test_needs(self):
        made = docket(self.RULES, (5, BEGIN), (10, file("ann", "claim")), (20, served()), (40, file("bob", "brief")))
        for name, expected in (
                ("note", [(5, 40)]), ("brief", [(5, None)]), ("xfiled", [(40, None)]), ("xfree", [(5, 40)]),
                ("xwaiting", [(10, 20)]), ("xopen", [(20, 31)]), ("xoverdue", [(31, 36)]), ("xlapsed", [(36, None)]),
                ("xdone", []), ("defence", []), ("finis", [(5, None)])):
            self.assertEqual(self.told(made, name), expected, name)
        made.enter(0, 25, file("bob", "defence"))
        self.assertEqual(self.told(made, "xdone"), [(25, None)])
        self.assertEqual(self.told(made, "xopen"), [(20, 25)])
        self.assertEqual(self.told(made, "xlapsed"), [])

    def test_several_windows(self):
        made = docket(self.RULES, (5, BEGIN), (10, file("ann", "claim")), (20, served()), (33, leave(34)))
        self.assertEqual(self.told(made, "xopen"), [(20, 31), (33, 35)])
        self.assertEqual(self.told(made, "xoverdue"), [(31, 33), (35, 40)])
        self.assertEqual(self.told(made, "xoverdue", 32), [(32, 33), (35, 40)])
        self.assertEqual(self.told(made, "xoverdue", 36), [(36, 40)])
        self.assertEqual(self.told(made, "xoverdue", 40), [])
        self.assertEqual(self.told(made, "xlapsed", 50), [(50, None)])
        self.assertEqual(self.told(made, "xlapsed", LAST), [(LAST, None)])

    def test_windows_over_rows_and_changes(self):
        # In each of the windows there are rows, and days on which the duty is overdue, that change nothing.
        made = docket(self.RULES, (5, BEGIN), (10, file("ann", "claim")), (12, file("bob", "defence")), (14, file("ann", "claim")),
                      (15, file("cid", "claim")), (20, served()), (25, file("ann", "xopen")), (26, leave(40)), (35, OTHER),
                      (50, file("ann", "claim")), (55, file("ann", "note")), (60, served()), (62, file("ann", "note")))
        self.assertEqual(self.told(made, "xwaiting"), [(10, 12), (14, 20), (50, 60)])
        self.assertEqual(self.told(made, "xopen"), [(20, 41), (60, 71)])
        self.assertEqual(self.told(made, "note"), [(5, None)])
        self.assertEqual(self.told(made, "xdone"), [(12, None)])

    def test_who_and_whether(self):
        made = docket(self.RULES, (5, BEGIN), (30, file("ann", "finis")))
        self.assertEqual(self.told(made, "note"), [(5, 30)])
        self.assertEqual(self.told(made, "note", 30), [])
        for party in ("bob", "cid", "dan", "court"):
            self.assertEqual(self.told(made, "note", party=party), [])
        self.assertEqual(windows(made, "two", "ann", "note", 0, 0), [])
        with self.assertRaises(NotThere):
            windows(made, "one", "ann", "nothing", 0, 0)
        with self.assertRaises(NotThere):
            windows(made, "two", "dan", "nothing", 0, 0)

    def test_as_known(self):
        made = docket(self.RULES, (3, 5, BEGIN), (4, 7, ("strike", 0)), (6, 50, ("strike", 1)))
        self.assertEqual([self.told(made, "note", k=k) for k in (2, 3, 4, 5, 6)],
                         [[], [(5, None)], [], [], [(5, None)]])

    def test_the_last_day(self):
        made = docket(self.RULES, (5, BEGIN), (10, file("ann", "claim")), (999985, served()))
        # Its last day is the day 999995, and it is overdue up to the last day of all.
        self.assertEqual(self.told(made, "xopen"), [(999985, 999996)])
        self.assertEqual(self.told(made, "xoverdue"), [(999996, None)])
        self.assertEqual(self.told(made, "xlapsed"), [])
        made = docket(self.RULES, (5, BEGIN), (10, file("ann", "claim")), (999990, served()))
        self.assertEqual(self.told(made, "xopen"), [(999990, None)])
        made = docket(self.RULES, (LAST, BEGIN))
        self.assertEqual(self.told(made, "note"), [(LAST, None)])
        made = docket(self.RULES, (5, BEGIN), (LAST, file("ann", "finis")))
        self.assertEqual(self.told(made, "note"), [(5, LAST)])
        self.assertEqual(self.told(made, "note", LAST), [])
        made = docket(self.RULES, (5, BEGIN), (10, file("ann", "claim")), (999984, served()))
        self.assertEqual(self.told(made, "xoverdue"), [(999995, LAST)])
        self.assertEqual(self.told(made, "xlapsed"), [(LAST, None)])

    def test_a_full_docket(self):
        made = docket(self.RULES, (5, BEGIN), *[(6, file("ann", "claim")) for _ in range(499)])
        self.assertEqual(self.told(made, "note"), [(5, None)])
        self.assertEqual(len(made.entries()), 500)

    def test_behind_the_rows_of_its_day(self):
        # The filing would be the next entry: it is behind all rows of its day.
        made = docket(self.RULES, (5, BEGIN), (9, file("bob", "brief")), (9, ("stay", "all", "", "rests")))
        self.assertEqual(self.told(made, "note"), [(5, 9)])

    def test_against_entering_it(self):
        dice = random.Random(48)
        many = 0
        for near in (150, 999900) * 80:
            rules = makers.rule_book(dice)
            made = docket_of(rules, makers.full_regimes(dice, near), makers.entries(dice, rules, near, 30))
            k = made.entries()[dice.choice((20, 29))][1]
            name = dice.choice(rules[1])[0]
            party = dice.choice(("ann", "bob", "cid", "court"))
            low = near - 90
            found = windows(made, "one", party, name, low, k)
            for day in range(low, min(LAST, low + 250) + 1, 1):
                inside = any(first <= day and (behind is None or day < behind) for first, behind in found)
                self.assertEqual(inside, stands(made, "one", party, name, day, k), (found, day))
            for (_, behind), (first, _) in zip(found, found[1:]):
                self.assertLess(behind, first)
            many += len(found)
        self.assertGreater(many, 30)

    def test_entered_indeed(self):
        dice = random.Random(481)
        for _ in range(15):
            rules = makers.rule_book(dice)
            regime_list = makers.full_regimes(dice, 200)
            entries = makers.entries(dice, rules, 200, 20)
            name = dice.choice(rules[1])[0]
            k = entries[-1][1]
            found = windows(docket_of(rules, regime_list, entries), "one", "ann", name, 150, k)
            for day in range(150, 260):
                made = docket_of(rules, regime_list, entries)
                number = made.enter(k, day, ("file", "one", "ann", name))
                inside = any(first <= day and (behind is None or day < behind) for first, behind in found)
                self.assertEqual(inside, dict(words(made, LAST, k))[number] == "stands")


class Answers(unittest.TestCase):
    def test_answers_may_be_changed(self):
        made = docket(book(CLAIM), (1, BEGIN), (2, file("ann", "claim")), (3, 1, ("strike", 0)))
        asked = (lambda: grounds(made, *ANSWER, 9, 0), lambda: overtaken(made, 5), lambda: turns(made, *ANSWER, 9),
                 lambda: news(made, 9, 0, 5), lambda: windows(made, "one", "ann", "claim", 0, 0))
        for ask in asked:
            told = ask()
            self.assertGreater(len(told), 0)
            told.append(None)
            self.assertEqual(ask() + [None], told)
        entries = made.entries()
        for ask in asked:
            ask()
        self.assertEqual(made.entries(), entries)

    def test_a_scene_tells_whether_a_filing_would_stand_without_playing_it(self):
        made = docket(book(CLAIM), (1, BEGIN), (2, file("ann", "claim")))
        stage = Scene(made)
        stage.play(0, 1)
        self.assertIs(stage.would_stand("one", "ann", "claim", 5), True)
        self.assertEqual(stage.filings("one"), [])
        self.assertEqual(stage.play(1, 2), "stands")


if __name__ == "__main__":
    unittest.main()
