"""Points 49 to 53: loose states, moves and courses, dead ends, and courses laid as deeds."""

import random
import unittest

import court
import makers
from docketloom.docket import docket_of
from docketloom.errors import Malformed, NotThere, OutOfRange, Refused, TooMuch
from docketloom.loose import after, course_to, dead_course, laid, loose_moves, reached_states
from docketloom.standing import Scene, scene, words
from odd import ODD

NONE = ((), (), (), ())
FIRST = ((), (), False)
LAST = 1000000


def kind(name, roles=("plaintiff",), needs=(), does=(), opens=(), bars=(), ends=False):
    return (name, roles, needs, does, opens, bars, ends)


def book(*kinds, grace=5, duties=("answer",)):
    return (tuple((duty, "month", grace) for duty in duties), tuple(sorted(kinds)))


def regimes(rule=(10, "days", "next", "no", 0)):
    return ("old", ((0, (NONE, (("month", rule),))),))


CLAIM = kind("claim", opens=(("answer", "defendant"),))
DEFENCE = kind("defence", roles=("defendant",), does=("answer",))
DOCUMENT = ((("answer", "month", 0),), (
    ("claim", ("plaintiff",), (("free", "claim"),), (), (("answer", "defendant"),), (), False),
    ("defence", ("defendant",), (("filed", "claim"),), ("answer",), (), ("defence",), False),
    ("ruling", ("court",), (("lapsed", "answer"),), (), (), (), True)))


class Plain:
    """Loose states another way: one duty after the other in a list, as it would be in a cause."""

    def __init__(self, rules):
        self.graces = {duty: grace for duty, _, grace in rules[0]}
        self.kinds = {rule[0]: rule for rule in rules[1]}
        self.roles = sorted({"court"} | {role for rule in rules[1] for role in rule[1]}
                            | {role for rule in rules[1] for _, role in rule[4] if role})

    def need(self, state, word, name):
        filed, duties, _ = state
        if word in ("filed", "free"):
            return (name in filed) is (word == "filed")
        for _, duty, live, done, lapsed in duties:
            if duty == name and (live == word or (word == "done" and done) or (word == "lapsed" and lapsed)):
                return True
        return False

    def moves(self, state):
        filed, duties, ended = state
        found = []
        for role in self.roles:
            for name, rule in self.kinds.items():
                barred = any(name in self.kinds[other][5] for other in filed)
                if role in rule[1] and not barred and all(self.need(state, *need) for need in rule[2]):
                    found.append(("file", role, name))
        for role, duty, live, _, _ in duties:
            if live == "waiting":
                found.append(("serve", role, duty))
            if live == "overdue":
                found.append(("leave", role, duty))
            if live == "open" or (live == "overdue" and self.graces[duty] is not None):
                found.append(("pass", role, duty))
        return [] if ended else sorted(found)

    def after(self, state, move):
        word, role, name = move
        filed, duties, ended = state
        rows = {row[:2]: list(row[2:]) for row in duties}
        if word == "file":
            rule = self.kinds[name]
            for (other, duty), row in rows.items():
                if other == role and duty in rule[3] and row[0]:
                    row[:2] = ["", True]
            for duty, opened in rule[4]:
                for other in self.roles:
                    if other == (opened or role):
                        row = rows.setdefault((other, duty), ["", False, False])
                        if not row[0]:
                            row[0] = "open" if other in (role, "court") else "waiting"
            if rule[6]:
                ended = True
                for row in rows.values():
                    row[0] = ""
            filed = tuple(sorted(set(filed) | {name}))
        else:
            row = rows[role, name]
            row[0] = {"serve": "open", "leave": "open", "pass": "overdue" if row[0] == "open" else "lapsed"}[word]
            if word == "pass" and (row[0] == "lapsed" or self.graces[name] == 0):
                row[0], row[2] = "", True
        return (filed, tuple(sorted(key + tuple(row) for key, row in rows.items())), ended)


def courses(rules, longest, most):
    """All loose courses with their states, the shorter ones first, those of one length in order."""
    told = Plain(rules)
    layer = [([], FIRST)]
    many = 0
    for _ in range(longest + 1):
        yield from layer
        many += len(layer)
        if many > most:
            return
        layer = [(course + [move], told.after(state, move)) for course, state in layer for move in told.moves(state)]


def dead(told, state):
    if state[2]:
        return False
    seen = {state}
    left = [state]
    while left:
        at = left.pop()
        for move in told.moves(at):
            if move[0] == "file":
                return False
            behind = told.after(at, move)
            if behind not in seen:
                seen.add(behind)
                left.append(behind)
    return True


class Moves(unittest.TestCase):
    def test_file_serve_pass_leave(self):
        rules = book(CLAIM, DEFENCE)
        state = after(rules, FIRST, ("file", "plaintiff", "claim"))
        self.assertEqual(state, (("claim",), (("defendant", "answer", "waiting", False, False),), False))
        self.assertEqual(loose_moves(rules, state), [("file", "defendant", "defence"), ("file", "plaintiff", "claim"),
                                                     ("serve", "defendant", "answer")])
        state = after(rules, state, ("serve", "defendant", "answer"))
        self.assertEqual(state[1], (("defendant", "answer", "open", False, False),))
        state = after(rules, state, ("pass", "defendant", "answer"))
        self.assertEqual(state[1], (("defendant", "answer", "overdue", False, False),))
        self.assertEqual(loose_moves(rules, state)[2:], [("leave", "defendant", "answer"), ("pass", "defendant", "answer")])
        self.assertEqual(after(rules, state, ("leave", "defendant", "answer"))[1][0][2], "open")
        lapsed = after(rules, state, ("pass", "defendant", "answer"))
        self.assertEqual(lapsed[1], (("defendant", "answer", "", False, True),))
        late = after(rules, state, ("file", "defendant", "defence"))
        self.assertEqual(late, (("claim", "defence"), (("defendant", "answer", "", True, False),), False))
        again = after(rules, lapsed, ("file", "plaintiff", "claim"))
        self.assertEqual(again[1], (("defendant", "answer", "waiting", False, True),))

    def test_graces(self):
        opened = (("claim",), (("defendant", "answer", "open", False, False),), False)
        overdue = (("claim",), (("defendant", "answer", "overdue", False, False),), False)
        for grace, behind, further in ((0, "", True), (1, "overdue", True), (None, "overdue", False)):
            rules = book(CLAIM, DEFENCE, grace=grace)
            row = ("defendant", "answer", behind, False, grace == 0)
            self.assertEqual(after(rules, opened, ("pass", "defendant", "answer"))[1], (row,))
            self.assertIs(("pass", "defendant", "answer") in loose_moves(rules, overdue), further)

    def test_needs(self):
        named = ("done", "filed", "free", "lapsed", "open", "overdue", "waiting")
        rules = book(CLAIM, DEFENCE, *(kind("x" + word, needs=((word, "claim" if word[0] == "f" else "answer"),))
                                       for word in named))

        def told(filed, *rows):
            found = loose_moves(rules, (filed, tuple(("defendant", "answer") + row for row in rows), False))
            return [name[1:] for word, _, name in found if word == "file" and name[0] == "x"]
        self.assertEqual(told(()), ["free"])
        self.assertEqual(told(("claim",)), ["filed"])
        self.assertEqual(told(("claim",), ("waiting", False, False)), ["filed", "waiting"])
        self.assertEqual(told(("claim",), ("open", True, False)), ["done", "filed", "open"])
        self.assertEqual(told(("claim",), ("overdue", False, True)), ["filed", "lapsed", "overdue"])
        self.assertEqual(told(("claim",), ("", True, True)), ["done", "filed", "lapsed"])

    def test_opened_for_whom(self):
        rules = book(kind("claim", roles=("defendant", "plaintiff"), opens=(("answer", ""), ("answer", "court"),
                                                                          ("answer", "plaintiff"))))
        self.assertEqual(after(rules, FIRST, ("file", "defendant", "claim"))[1],
                         (("court", "answer", "open", False, False), ("defendant", "answer", "open", False, False),
                          ("plaintiff", "answer", "waiting", False, False)))
        self.assertEqual(after(rules, FIRST, ("file", "plaintiff", "claim"))[1],
                         (("court", "answer", "open", False, False), ("plaintiff", "answer", "open", False, False)))

    def test_done_ahead_of_opened_and_no_further_one(self):
        rules = book(CLAIM, kind("defence", roles=("defendant",), does=("answer",), opens=(("answer", ""),)))
        for live in ("waiting", "open", "overdue"):
            state = (("claim",), (("defendant", "answer", live, False, True),), False)
            self.assertEqual(after(rules, state, ("file", "defendant", "defence"))[1],
                             (("defendant", "answer", "open", True, True),))
            self.assertEqual(after(rules, state, ("file", "plaintiff", "claim")), state)

    def test_ends(self):
        rules = book(CLAIM, kind("finis", ends=True, opens=(("answer", ""),)))
        state = (("claim",), (("defendant", "answer", "open", False, False),), False)
        ended = after(rules, state, ("file", "plaintiff", "finis"))
        self.assertEqual(ended, (("claim", "finis"), (("defendant", "answer", "", False, False),
                                                      ("plaintiff", "answer", "", False, False)), True))
        self.assertEqual(loose_moves(rules, ended), [])
        with self.assertRaises(Refused):
            after(rules, ended, ("file", "plaintiff", "claim"))

    def test_bars(self):
        rules = book(kind("claim", bars=("claim", "note")), kind("note"))
        state = after(rules, FIRST, ("file", "plaintiff", "claim"))
        self.assertEqual(loose_moves(rules, state), [])

    def test_refused(self):
        state = (("claim",), (("defendant", "answer", "waiting", False, False),), False)
        rules = book(CLAIM, DEFENCE)
        for move in (("pass", "defendant", "answer"), ("leave", "defendant", "answer"), ("serve", "plaintiff", "answer"),
                     ("serve", "defendant", "claim"), ("file", "plaintiff", "defence"), ("file", "plaintiff", "ruling"),
                     ("strike", "plaintiff", "claim"), ("file", "dan", "claim")):
            with self.assertRaises(Refused, msg=move):
                after(rules, state, move)

    def test_against_the_plain_way(self):
        dice = random.Random(49)
        for _ in range(60):
            rules = makers.rule_book(dice)
            told = Plain(rules)
            state = FIRST
            for _ in range(25):
                moves = loose_moves(rules, state)
                self.assertEqual(moves, told.moves(state))
                if not moves:
                    break
                move = dice.choice(moves)
                behind = after(rules, state, move)
                self.assertEqual(behind, told.after(state, move))
                state = behind


class Search(unittest.TestCase):
    def test_document(self):
        self.assertEqual(course_to(DOCUMENT, "ruling"), [
            ("file", "plaintiff", "claim"), ("serve", "defendant", "answer"), ("pass", "defendant", "answer"),
            ("file", "court", "ruling")])
        self.assertEqual(dead_course(DOCUMENT), [("file", "plaintiff", "claim"), ("file", "defendant", "defence")])

    def test_never_and_not_there(self):
        rules = book(kind("claim", needs=(("filed", "note"),)), kind("note", needs=(("filed", "claim"),)))
        self.assertIsNone(course_to(rules, "claim"))
        self.assertEqual(dead_course(rules), [])
        self.assertEqual(reached_states(rules), [FIRST])
        for name in ("brief", "answer", ""):
            with self.assertRaises(NotThere):
                course_to(rules, name)
        self.assertIsNone(dead_course(book(kind("claim"))))
        self.assertIsNone(dead_course(book(kind("claim", ends=True))))

    def test_alive_by_leave_and_service_and_passing(self):
        for need, bad in (("open", "claim"), ("overdue", "claim"), ("lapsed", "claim")):
            rules = book(kind("claim", bars=(bad,), opens=(("answer", "defendant"),)),
                         kind("note", needs=((need, "answer"),), bars=("note",)), grace=3)
            # Behind the claim nothing can be filed but the note, for which the duty has to be served first.
            dead_end = dead_course(rules)
            self.assertEqual(dead_end[0], ("file", "plaintiff", "claim"))
            self.assertGreater(len(dead_end), 2)
        rules = book(kind("claim", bars=("claim",), opens=(("answer", "defendant"),)),
                     kind("note", needs=(("open", "answer"),)), grace=None)
        # Whether it is waiting, open or overdue, the duty can be open again.
        self.assertIsNone(dead_course(rules))

    def test_reached_states(self):
        dice = random.Random(50)
        for _ in range(50):
            rules = makers.rule_book(dice)
            told = Plain(rules)
            seen = {FIRST}
            left = [FIRST]
            while left and len(seen) <= 2000:
                state = left.pop()
                for move in told.moves(state):
                    behind = told.after(state, move)
                    if behind not in seen:
                        seen.add(behind)
                        left.append(behind)
            if len(seen) > 2000:
                with self.assertRaises(TooMuch):
                    reached_states(rules)
            else:
                self.assertEqual(reached_states(rules), sorted(seen))

    def test_against_all_courses(self):
        dice = random.Random(51)
        found = 0
        dead_ends = 0
        for _ in range(90):
            rules = makers.rule_book(dice)
            told = Plain(rules)
            try:
                reached_states(rules)
            except TooMuch:
                continue
            first = {}
            first_dead = None
            longest = 0
            seen = set()
            for course, state in courses(rules, 6, 1500):
                longest = max(longest, len(course))
                if state in seen:
                    continue
                seen.add(state)
                for name in state[0]:
                    first.setdefault(name, course)
                if first_dead is None and dead(told, state):
                    first_dead = course
            for rule in rules[1]:
                course = course_to(rules, rule[0])
                if rule[0] in first:
                    self.assertEqual(course, first[rule[0]])
                    found += 1
                else:
                    self.assertTrue(course is None or len(course) > longest)
            course = dead_course(rules)
            if first_dead is not None:
                self.assertEqual(course, first_dead)
                dead_ends += 1
            else:
                self.assertTrue(course is None or len(course) > longest)
        self.assertGreater(found, 100)
        self.assertGreater(dead_ends, 5)

    def test_too_much(self):
        # Eleven kinds that can be filed in any order: 2048 states.
        free = [kind(chr(97 + at) * 2) for at in range(11)]
        rules = book(*free, duties=())
        for ask in (lambda: reached_states(rules), lambda: course_to(rules, "aa"), lambda: dead_course(rules)):
            with self.assertRaises(TooMuch):
                ask()
        with self.assertRaises(NotThere):
            course_to(rules, "claim")
        self.assertEqual(len(reached_states(book(*free[1:], duties=()))), 1024)

    def test_just_two_thousand(self):
        # Each claim is not filed, or its duty is waiting, open, overdue or lapsed; each note is filed or not.
        claims = [kind("c" + duty, opens=((duty, "defendant"),), bars=("c" + duty,)) for duty in "abc"]
        notes = [kind("n" + sign) for sign in "abcd"]
        rules = book(*claims, *notes, duties="abc")
        self.assertEqual(len(reached_states(rules)), 2000)
        self.assertEqual(course_to(rules, "cb"), [("file", "plaintiff", "cb")])
        self.assertIsNone(dead_course(rules))
        # From one of these states, one more follows.
        last = kind("zz", needs=tuple(("filed", "n" + sign) for sign in "abcd") + tuple(("lapsed", duty) for duty in "abc"),
                    ends=True)
        rules = book(*claims, *notes, last, duties="abc")
        for ask in (lambda: reached_states(rules), lambda: course_to(rules, "cb"), lambda: dead_course(rules)):
            with self.assertRaises(TooMuch):
                ask()
        self.assertEqual(len(reached_states(book(*claims[1:], *notes, kind("zz", ends=True), duties="abc"))),
                         400 + 3 ** 2 * 2 ** 4)


    def in_rows(self, sizes):
        """The book without duties whose kinds stand in rows, each needing that the one ahead of it has been filed."""
        signs = "abcdefghijklmnop"
        return ((), tuple(kind(signs[row] + signs[place], ("court",), (("filed", signs[row] + signs[place - 1]),) if place else ())
                          for row, size in enumerate(sizes) for place in range(size)))

    def test_rows_of_kinds(self):
        sizes = [4, 4, 4, 1, 1, 1, 1]
        rules = self.in_rows(sizes)
        names = [[name for name, _, _, _, _, _, _ in rules[1] if name[0] == sign] for sign in "abcdefg"]
        told = [()]
        for row in names:
            told = [filed + tuple(row[:many]) for filed in told for many in range(len(row) + 1)]
        self.assertEqual(reached_states(rules), sorted((filed, (), False) for filed in told))
        self.assertEqual(len(told), 2000)
        self.assertEqual(course_to(rules, "cd"), [("file", "court", name) for name in ("ca", "cb", "cc", "cd")])
        self.assertEqual(course_to(rules, "ga"), [("file", "court", "ga")])
        self.assertIsNone(dead_course(rules))
        rules = self.in_rows([1, 1, 1, 1, 1, 2, 2, 6])
        for ask in (lambda: reached_states(rules), lambda: course_to(rules, "hf"), lambda: dead_course(rules)):
            with self.assertRaises(TooMuch):
                ask()

    def test_moves_lead_from_state_to_state(self):
        # Each state that is told follows from another one by a move, and what follows is told.
        dice = random.Random(5020)
        many = 0
        for _ in range(60):
            rules = makers.rule_book(dice)
            try:
                found = reached_states(rules)
            except TooMuch:
                continue
            if len(found) > 150:
                continue
            many += 1
            behind = [after(rules, state, move) for state in found for move in loose_moves(rules, state)]
            self.assertEqual(sorted(set(behind) | {FIRST}), found)
        self.assertGreater(many, 20)

    def test_needs_that_cannot_hold(self):
        # Filed and free at once, barred by what it needs, and a duty that nothing opens.
        claim, note = kind("claim"), kind("note", needs=(("filed", "claim"), ("free", "claim")))
        self.assertIsNone(course_to(book(claim, note), "note"))
        note = kind("note", needs=(("filed", "claim"),))
        self.assertIsNone(course_to(book(kind("claim", bars=("note",)), note), "note"))
        self.assertEqual(course_to(book(claim, note), "note"), [("file", "plaintiff", "claim"), ("file", "plaintiff", "note")])
        for word in ("waiting", "open", "overdue", "lapsed", "done"):
            rules = book(claim, kind("note", needs=((word, "answer"),), does=("answer",)))
            self.assertIsNone(course_to(rules, "note"))
            self.assertEqual(len(reached_states(rules)), 2)

    def test_nothing_at_first(self):
        for needs in ((("filed", "claim"),), (("open", "answer"),), (("done", "answer"), ("filed", "claim"))):
            rules = book(kind("claim", needs=needs, opens=(("answer", ""),)))
            self.assertEqual((reached_states(rules), course_to(rules, "claim"), dead_course(rules)), ([FIRST], None, []))
        rules = book(kind("claim", needs=(("free", "claim"),)))
        self.assertEqual((len(reached_states(rules)), dead_course(rules)), (2, [("file", "plaintiff", "claim")]))


def play(rules, told, deeds):
    """The docket with these deeds."""
    return docket_of(rules, told, [(at, day, day, deed) for at, (day, deed) in enumerate(deeds)])


class Laid(unittest.TestCase):
    def test_ordinary(self):
        course = course_to(DOCUMENT, "ruling")
        self.assertEqual(laid(DOCUMENT, regimes(), course), [
            (0, ("begin", "trial", (("defendant", "defendant"), ("plaintiff", "plaintiff")))),
            (0, ("file", "trial", "plaintiff", "claim")), (0, ("served", "trial", "defendant", "answer")),
            (11, ("file", "trial", "court", "ruling"))])
        self.assertEqual(laid(DOCUMENT, regimes(), []),
                         [(0, ("begin", "trial", (("defendant", "defendant"), ("plaintiff", "plaintiff"))))])

    def test_passes_and_leave(self):
        rules = book(CLAIM, DEFENCE, grace=5)
        course = [("file", "plaintiff", "claim"), ("serve", "defendant", "answer"), ("pass", "defendant", "answer"),
                  ("leave", "defendant", "answer"), ("pass", "defendant", "answer"), ("pass", "defendant", "answer"),
                  ("file", "plaintiff", "claim")]
        self.assertEqual(laid(rules, regimes(), course)[3:], [
            (11, ("leave", "trial", "defendant", "answer", 11)), (17, ("file", "trial", "plaintiff", "claim"))])

    def test_others_get_leave(self):
        rules = ((("aa", "week", 3), ("bb", "month", 0), ("cc", "week", 100)),
                 (kind("claim", opens=(("aa", "defendant"), ("bb", "defendant"), ("cc", "defendant"))),))
        told = ("old", ((0, (NONE, (("month", (30, "days", "next", "no", 0)), ("week", (7, "days", "next", "no", 0))))),))
        ahead = [("file", "plaintiff", "claim")] + [("serve", "defendant", duty) for duty in ("aa", "bb", "cc")]
        passes = [("pass", "defendant", duty) for duty in ("aa", "bb", "cc")]
        leave = [("leave", "trial", "defendant", duty) for duty in ("aa", "bb", "cc")]
        # On day 8, cc gets leave to stay open.
        self.assertEqual(laid(rules, told, ahead + passes[:1])[5:], [(0, leave[2] + (8,))])
        # On day 31: aa, which is overdue up to day 10, gets leave up to day 30, and cc, which is open, up to day 31.
        self.assertEqual(laid(rules, told, ahead + passes[:2])[5:], [(0, leave[2] + (8,)), (8, leave[0] + (30,)),
                                                                     (8, leave[2] + (31,))])
        # If cc is overdue as well, its grace lasts.
        self.assertEqual(laid(rules, told, ahead + [passes[0], passes[2], passes[1]])[5:],
                         [(0, leave[2] + (8,)), (9, leave[0] + (30,))])
        # An overdue duty without an end of its grace needs none.
        self.assertEqual(laid(((("aa", "week", None),) + rules[0][1:], rules[1]), told, ahead + passes[:2])[5:],
                         [(0, leave[2] + (8,)), (8, leave[2] + (31,))])

    def test_malformed_ahead_of_all(self):
        # A duty without a last day passes, and then comes what is no move.
        rules = book(CLAIM, DEFENCE)
        short = ("old", ((0, (((0, 1, 2, 3, 4, 5), (), (), ()), (("month", (1000, "months", "next", "no", 0)),))),))
        course = [("file", "plaintiff", "claim")] + [("serve", "defendant", "answer"), ("pass", "defendant", "answer"),
                                                    ("leave", "defendant", "answer")] * 1
        with self.assertRaises(Malformed):
            laid(rules, short, course + [("serve", "defendant", "answer")])
        with self.assertRaises(Malformed):
            laid(rules, regimes(), [("file", "plaintiff", "claim")] * 600 + [("file", "court", "claim")])
        for course in ([("file", "defendant", "claim")], [("serve", "defendant", "answer")], [None], [[]],
                       [["file", "plaintiff", "claim"]], [("file", "plaintiff", "claim", 0)], [("file", "plaintiff")]):
            with self.assertRaises(Malformed, msg=course):
                laid(rules, regimes(), course)
        for value in ODD:
            if value != []:
                with self.assertRaises(Malformed):
                    laid(rules, regimes(), [value])

    def test_out_of_range(self):
        rules = book(CLAIM, DEFENCE, grace=1000)
        long = regimes((1000, "weeks", "next", "no", 0))
        course = [("file", "plaintiff", "claim"), ("serve", "defendant", "answer"), ("pass", "defendant", "answer"),
                  ("file", "defendant", "defence")]
        # Each time round takes 7001 days.
        rounds = [move for _ in range(142) for move in course]
        self.assertEqual(laid(rules, long, rounds)[-1], (994142, ("file", "trial", "defendant", "defence")))
        # Too many deeds, too.
        for more in (1, 40):
            with self.assertRaises(OutOfRange):
                laid(rules, long, [move for _ in range(142 + more) for move in course])

    def test_the_last_day_of_all(self):
        rules = book(CLAIM, DEFENCE, grace=1000)
        course = [("file", "plaintiff", "claim"), ("serve", "defendant", "answer"), ("pass", "defendant", "answer"),
                  ("file", "defendant", "defence")]
        # 142 rounds of 7001 days, and one more by another rule, whose last day is the day 999994.
        told = ("old", ((0, (NONE, (("month", (1000, "weeks", "next", "no", 0)),))),
                        (994142, (NONE, (("month", (836, "weeks", "next", "no", 0)),)))))
        rounds = course * 142 + course[:3]
        self.assertEqual(laid(rules, told, rounds + course[:1])[-1], (999995, ("file", "trial", "plaintiff", "claim")))
        rules = book(CLAIM, DEFENCE, grace=5)
        more = [("pass", "defendant", "answer"), ("file", "plaintiff", "claim")]
        self.assertEqual(laid(rules, told, rounds + more)[-1], (LAST, ("file", "trial", "plaintiff", "claim")))
        with self.assertRaises(OutOfRange):
            laid(book(CLAIM, DEFENCE, grace=6), told, rounds + more)

    def test_no_last_day(self):
        # The term of a thousand months, again and again, comes to be behind the last day of all.
        rules = book(CLAIM, DEFENCE)
        months = regimes((1000, "months", "next", "no", 0))
        course = [("file", "plaintiff", "claim"), ("serve", "defendant", "answer"), ("pass", "defendant", "answer"),
                  ("file", "defendant", "defence")]
        self.assertEqual(laid(rules, months, course * 32)[-1][1][0], "file")
        with self.assertRaises(OutOfRange):
            laid(rules, months, course * 33)

    def test_too_much(self):
        rules = book(kind("note"), duties=())
        course = [("file", "plaintiff", "note")]
        self.assertEqual(len(laid(rules, regimes(), course * 499)), 500)
        with self.assertRaises(TooMuch):
            laid(rules, regimes(), course * 500)
        with self.assertRaises(TooMuch):
            laid(rules, regimes(), course * 2000)

    def test_just_its_filings_stand(self):
        dice = random.Random(53)
        many = 0
        leaves = 0
        for _ in range(150):
            rules = makers.rule_book(dice)
            told = makers.full_regimes(dice, 200)
            state = FIRST
            course = []
            for _ in range(dice.randint(1, 40)):
                moves = loose_moves(rules, state)
                if not moves:
                    break
                quiet = [move for move in moves if move[0] != "file"]
                course.append(dice.choice(quiet if quiet and dice.random() < 0.7 else moves))
                state = after(rules, state, course[-1])
            deeds = laid(rules, told, course)
            made = play(rules, told, deeds)
            self.assertEqual({word for _, word in words(made, LAST, LAST)}, {"stands"})
            filed = [(deed[2], deed[3]) for _, deed in deeds if deed[0] == "file"]
            self.assertEqual(filed, [(role, name) for word, role, name in course if word == "file"])
            self.assertEqual([name for _, name in scene(made, LAST, LAST).filings("trial")], [name for _, name in filed])
            self.assertEqual([deed[0] for _, deed in deeds].count("served"), [move[0] for move in course].count("serve"))
            many += len(course)
            leaves += [deed[0] for _, deed in deeds].count("leave") - [move[0] for move in course].count("leave")
            self.check_states(rules, told, course, deeds)
        self.assertGreater(many, 1000)
        self.assertGreater(leaves, 20)

    def check_states(self, rules, told, course, deeds):
        """Ahead of and behind the deed of each move, the docket stands as the loose state does."""
        stage = Scene(play(rules, told, deeds))
        loose = Plain(rules)
        state = FIRST
        stage.play(0, 0)
        at = 1
        for many, move in enumerate(course, 1):
            laid_now = laid(rules, told, course[:many])
            self.assertEqual(laid_now, deeds[:len(laid_now)])
            if move[0] != "pass":
                self.assertEqual(len(laid_now), at + 1)
                self.assertEqual(self.live(stage, deeds[at][0]), [row[:3] for row in state[1] if row[2]])
            while at < len(laid_now):
                if move[0] == "pass":
                    self.assertEqual(deeds[at][1][0], "leave")
                self.assertEqual(stage.play(at, deeds[at][0]), "stands")
                at += 1
            state = loose.after(state, move)
            if move[0] != "pass":
                self.assertEqual(self.live(stage, deeds[at - 1][0]), [row[:3] for row in state[1] if row[2]])

    def live(self, stage, day):
        return sorted(row[1:4] for row in stage.duties("trial", day) if row[3] in ("waiting", "open", "overdue"))

    def test_dockets_are_loose(self):
        dice = random.Random(510)
        filed = 0
        for _ in range(60):
            rules = makers.rule_book(dice)
            regime_list = makers.full_regimes(dice, 200)
            begin = (0, 0, 0, ("begin", "one", (("ann", "plaintiff"), ("bob", "defendant"))))
            entries = [begin]
            for row in makers.entries(dice, rules, 200, 40)[2:]:
                if row[3][0] not in ("begin", "strike", "amend", "lift"):
                    entries.append((len(entries),) + row[1:])
            told, _ = court.court(rules, regime_list, entries, LAST, LAST)
            names = [name for _, name in told.filed["one"]]
            # The states that can be reached by any moves that are no filings, and then by the next filing.
            loose = Plain(rules)
            reached = {FIRST}
            for name in names:
                left = list(reached)
                while left:
                    state = left.pop()
                    for move in loose.moves(state):
                        behind = loose.after(state, move)
                        if move[0] != "file" and behind not in reached:
                            reached.add(behind)
                            left.append(behind)
                reached = {loose.after(state, move) for state in reached for move in loose.moves(state)
                           if move[0] == "file" and move[2] == name}
                self.assertTrue(reached, names)
            filed += len(names)
        self.assertGreater(filed, 100)


class Answers(unittest.TestCase):
    def test_answers_may_be_changed(self):
        for ask in (lambda: loose_moves(DOCUMENT, FIRST), lambda: reached_states(DOCUMENT),
                    lambda: course_to(DOCUMENT, "ruling"), lambda: dead_course(DOCUMENT),
                    lambda: laid(DOCUMENT, regimes(), course_to(DOCUMENT, "ruling"))):
            told = ask()
            told.append(None)
            self.assertEqual(ask() + [None], told)

    def test_what_is_handed_in_is_not_changed(self):
        course = course_to(DOCUMENT, "ruling")
        kept = list(course)
        laid(DOCUMENT, regimes(), course)
        self.assertEqual(course, kept)


if __name__ == "__main__":
    unittest.main()
