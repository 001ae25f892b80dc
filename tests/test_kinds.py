"""Points 35 to 38: duty rules, kinds, parties, deeds, rule books."""

import random
import unittest

import makers
from docketloom.errors import NotThere
from docketloom.kinds import is_deed, is_duty_rule, is_kind, is_parties
from docketloom.rulebook import duty_rule, is_rule_book, kind_rule, roles_of
from odd import ODD, is_plain, mutants

CLAIM = ("claim", ("plaintiff",), (("free", "claim"),), (), (("answer", "defendant"),), (), False)
DEFENCE = ("defence", ("defendant",), (("filed", "claim"),), ("answer",), (), ("defence",), False)
RULING = ("ruling", ("court",), (("lapsed", "answer"),), (), (), (), True)
BOOK = ((("answer", "month", 0),), (CLAIM, DEFENCE, RULING))


def without_flags(value):
    """True if the value has no truth value, but for the last one of a kind."""
    if isinstance(value, tuple):
        if len(value) == 7 and isinstance(value[6], bool):
            value = value[:6]
        return all(without_flags(item) for item in value)
    return is_plain(value)


class DutyRules(unittest.TestCase):
    def test_duty_rules(self):
        for grace in (0, 1, 1000, None):
            self.assertIs(is_duty_rule(("answer", "month", grace)), True)
        for value in (("answer", "month", -1), ("answer", "month", 1001), ("answer", "month", False),
                      ("answer", "month", "0"), ("Answer", "month", 0), ("answer", "", 0), ("answer", "month"),
                      ("answer", "month", 0, 0), ["answer", "month", 0], ("answer", None, 0)):
            self.assertIs(is_duty_rule(value), False, value)

    def test_any_kind(self):
        self.assertEqual([value for value in ODD if is_duty_rule(value)], [])
        for value in mutants(("answer", "month", 1)):
            answer = is_duty_rule(value)
            self.assertIn(answer, (True, False))
            if not is_plain(value):
                self.assertIs(answer, False, value)


class Kinds(unittest.TestCase):
    def kind(self, at, value):
        return is_kind(CLAIM[:at] + (value,) + CLAIM[at + 1:])

    def test_parts(self):
        for kind in (CLAIM, DEFENCE, RULING):
            self.assertIs(is_kind(kind), True)
        for at, good, bad in (
                (0, ("a", "a" * 16), ("", "A", "a" * 17, None, 1)),
                (1, (("a",), ("court",), ("a", "b", "c"), tuple(sorted(a + b for a in "abcd" for b in "abcd"))),
                 ((), ("b", "a"), ("a", "a"), ["a"], ("",), "a", None)),
                (2, ((), (("done", "a"),), (("done", "a"), ("filed", "a"), ("free", "a"), ("lapsed", "a"), ("open", "a"),
                                            ("overdue", "a"), ("waiting", "a"))),
                 ((("late", "a"),), (("void", "a"),), (("filed", ""),), (("filed",),), (("filed", "a", "b"),),
                  (("free", "a"), ("filed", "a")), (("free", "a"), ("free", "a")), [("free", "a")], (["free", "a"],),
                  ("free", "a"))),
                (3, ((), ("a", "b")), (("b", "a"), ("a", "a"), ("",), ["a"], "a")),
                (4, ((), (("a", ""),), (("a", ""), ("a", "court"), ("b", "a"))),
                 ((("", "a"),), (("a", None),), (("a", "A"),), (("a",),), (("b", ""), ("a", "")),
                  (("a", ""), ("a", "")), [("a", "")], (["a", ""],))),
                (5, ((), ("a", "claim")), (("b", "a"), ("a", "a"), ("",), ["a"], None)),
                (6, (True, False), (1, 0, None, "True", ()))):
            for value in good:
                self.assertIs(self.kind(at, value), True, (at, value))
            for value in bad:
                self.assertIs(self.kind(at, value), False, (at, value))
        self.assertIs(is_kind(CLAIM[:6]), False)
        self.assertIs(is_kind(CLAIM + (False,)), False)
        self.assertIs(is_kind(list(CLAIM)), False)

    def test_any_kind(self):
        self.assertEqual([value for value in ODD if is_kind(value)], [])
        for value in mutants(CLAIM):
            answer = is_kind(value)
            self.assertIn(answer, (True, False))
            if not without_flags(value):
                self.assertIs(answer, False, value)


class Parties(unittest.TestCase):
    def test_parties(self):
        for value in ((), (("ann", "plaintiff"),), (("ann", "a"), ("bob", "a")), (("ann", "b"), ("bob", "a")),
                      tuple((sign, "a") for sign in "abcdefgh")):
            self.assertIs(is_parties(value), True, value)
        for value in ((("bob", "a"), ("ann", "a")), (("ann", "a"), ("ann", "b")), (("ann", "a"), ("ann", "a")),
                      (("court", "a"),), (("ann", "court"),), (("court", "court"),), [("ann", "a")], (["ann", "a"],),
                      (("ann",),), (("ann", "a", "b"),), (("ann", ""),), (("", "a"),), (("ann", None),),
                      tuple((sign, "a") for sign in "abcdefghi"), None, ("ann", "a")):
            self.assertIs(is_parties(value), False, value)

    def test_any_kind(self):
        for value in mutants((("ann", "a"), ("bob", "b"))):
            answer = is_parties(value)
            self.assertIn(answer, (True, False))
            if not is_plain(value):
                self.assertIs(answer, False, value)


class Deeds(unittest.TestCase):
    GOOD = (
        ("begin", "trial", (("ann", "a"),)), ("begin", "trial", ()), ("file", "trial", "ann", "claim"),
        ("file", "trial", "court", "claim"), ("served", "trial", "ann", "answer"),
        ("leave", "trial", "ann", "answer", 0), ("leave", "trial", "ann", "answer", 1000000),
        ("stay", "all", "", "rests"), ("stay", "cause", "trial", "anew"), ("stay", "party", "court", "rests"),
        ("lift", 0), ("lift", 499), ("strike", 0), ("strike", 499), ("amend", 0, 0), ("amend", 499, 1000000))

    def test_good_ones(self):
        for deed in self.GOOD:
            self.assertIs(is_deed(deed), True, deed)

    def test_bad_ones(self):
        for deed in (("begin", "trial"), ("begin", "Trial", ()), ("begin", "trial", []), ("begin", "trial", (), ()),
                     ("begin", "trial", (("court", "a"),)), ("file", "trial", "ann"), ("file", "trial", "ann", ""),
                     ("file", "trial", "ann", "claim", 1), ("served", "trial", "", "answer"), ("served", "trial", "ann"),
                     ("leave", "trial", "ann", "answer"), ("leave", "trial", "ann", "answer", -1),
                     ("leave", "trial", "ann", "answer", 1000001), ("leave", "trial", "ann", "answer", True),
                     ("leave", "trial", "ann", "answer", None), ("leave", "trial", "ann", 5, 5),
                     ("stay", "all", "ann", "rests"), ("stay", "cause", "", "rests"), ("stay", "none", "a", "rests"),
                     ("stay", "all", "", "runs"), ("stay", "all", ""), ("stay", "all", "", "rests", 0), ("lift",),
                     ("lift", -1), ("lift", 500), ("lift", True), ("lift", 0, 0), ("strike", 500), ("strike", False),
                     ("strike", None), ("amend", 0), ("amend", 500, 0), ("amend", 0, -1), ("amend", 0, 1000001),
                     ("amend", 0, True), ("amend", False, 0), (), ("file",), ("plead", "a", "b", "c"), ["lift", 0],
                     ("Lift", 0), (None, 0), (["lift"], 0), ({}, 0), "lift", ((), 0)):
            self.assertIs(is_deed(deed), False, deed)

    def test_any_kind(self):
        self.assertEqual([value for value in ODD if is_deed(value)], [])
        for deed in self.GOOD:
            for value in mutants(deed):
                answer = is_deed(value)
                self.assertIn(answer, (True, False))
                if not is_plain(value):
                    self.assertIs(answer, False, value)


class RuleBooks(unittest.TestCase):
    def kinds(self, *kinds):
        return is_rule_book((BOOK[0], kinds))

    def test_good_ones(self):
        self.assertIs(is_rule_book(BOOK), True)
        self.assertIs(is_rule_book(((), (("a", ("b",), (), (), (), (), False),))), True)
        dice = random.Random(37)
        for _ in range(50):
            self.assertIs(is_rule_book(makers.rule_book(dice)), True)

    def test_how_many(self):
        def plain_kinds(many):
            return tuple((chr(97 + at), ("x",), (), (), (), (), False) for at in range(many))

        def duties(many):
            return tuple((chr(97 + at), "month", None) for at in range(many))
        for many, answer in ((0, False), (1, True), (16, True), (17, False)):
            self.assertIs(is_rule_book(((), plain_kinds(many))), answer)
        for many, answer in ((0, True), (12, True), (13, False)):
            self.assertIs(is_rule_book((duties(many), plain_kinds(1))), answer)

    def test_roles(self):
        def roles(*names):
            return is_rule_book((BOOK[0], (CLAIM[:1] + (tuple(sorted(names)),) + CLAIM[2:],)))
        self.assertIs(roles(*"abcdefg"), True)
        self.assertIs(roles("court", *"abcdefg"), True)
        self.assertIs(roles(*"abcdefgh"), False)
        self.assertIs(roles("court", "defendant", *"abcdefgh"), False)
        self.assertIs(roles("court", "defendant", *"abcdefg"), True)

    def test_order_and_doubles(self):
        self.assertIs(self.kinds(CLAIM, DEFENCE), True)
        self.assertIs(self.kinds(DEFENCE, CLAIM), False)
        self.assertIs(self.kinds(CLAIM, CLAIM), False)
        self.assertIs(self.kinds(CLAIM, CLAIM[:6] + (True,)), False)
        duty = ("answer", "month", 0)
        for duties in ((duty, duty), (duty, ("answer", "week", 0)), (("b", "month", 0), duty)):
            self.assertIs(is_rule_book((duties, BOOK[1])), False)
        self.assertIs(is_rule_book(((duty, ("b", "month", 0)), BOOK[1])), True)

    def test_what_is_named_has_its_rule(self):
        for at, value in ((2, (("filed", "other"),)), (2, (("free", "other"),)), (2, (("open", "claim"),)),
                          (2, (("waiting", "other"),)), (2, (("done", "other"),)), (2, (("filed", "answer"),)),
                          (3, ("other",)), (4, (("other", ""),)), (5, ("other",)), (5, ("answer",))):
            self.assertIs(self.kinds(CLAIM[:at] + (value,) + CLAIM[at + 1:]), False, value)

    def test_any_kind(self):
        self.assertEqual([value for value in ODD if is_rule_book(value)], [])
        for value in mutants(BOOK, [True, None, 1, (), [], {}, "a"]):
            answer = is_rule_book(value)
            self.assertIn(answer, (True, False))
            if not without_flags(value):
                self.assertIs(answer, False, value)
        self.assertIs(is_rule_book(list(BOOK)), False)
        self.assertIs(is_rule_book(BOOK + ((),)), False)

    def test_rules(self):
        self.assertEqual(duty_rule(BOOK, "answer"), ("answer", "month", 0))
        self.assertEqual(kind_rule(BOOK, "defence"), DEFENCE)
        for name in ("claim", "other", "month"):
            with self.assertRaises(NotThere):
                duty_rule(BOOK, name)
        for name in ("answer", "other"):
            with self.assertRaises(NotThere):
                kind_rule(BOOK, name)

    def test_roles_of(self):
        self.assertEqual(roles_of(BOOK), ["court", "defendant", "plaintiff"])
        self.assertEqual(roles_of(((), (("a", ("b",), (), (), (), (), False),))), ["b", "court"])
        self.assertEqual(roles_of(((("d", "month", 0),), (("a", ("b",), (), (), (("d", ""), ("d", "z")), (), False),))),
                         ["b", "court", "z"])
        roles_of(BOOK).clear()
        self.assertEqual(roles_of(BOOK), ["court", "defendant", "plaintiff"])


if __name__ == "__main__":
    unittest.main()
