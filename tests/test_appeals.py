"""Points 80 to 83: ladders, heads, allowances, and the moves in a matter."""

import random
import unittest

import appealing
import makers
from docketloom.appeals import Matter, matter_of
from docketloom.errors import DocketError, Malformed, NotThere, OutOfRange, Refused
from docketloom.levels import is_allowances, is_heads, is_ladder, top
from odd import ODD, is_plain, mutants

NONE = ((), (), (), ())
LAST = 1000000
LADDER = (("ten", "ten"), "two", 1)
HEADS = (("costs", "", 0), ("debt", "", 0))


def regimes(ten=(10, "days", "next", "no", 0), two=(2, "days", "next", "no", 0), way="old"):
    return (way, ((0, (NONE, (("ten", ten), ("two", two)))),))


def matter(ladder=LADDER, heads=HEADS, allowances=(2, 2), told=None, stays=()):
    return Matter(ladder, heads, allowances, told or regimes(), stays)


class Values(unittest.TestCase):
    def test_ladders(self):
        for value in ((("a",), "a", 0), (("a", "b"), "c", 1), (("b", "a", "b"), "a" * 16, 0)):
            self.assertIs(is_ladder(value), True)
            self.assertEqual(top(value), len(value[0]))
        for value in (((), "a", 0), (("a",) * 4, "a", 0), (["a"], "a", 0), (("a",), "", 0), (("a",), "a", 2),
                      (("a",), "a", -1), (("a",), "a", False), (("a",), "a", True), (("a",), "a"), (("a",), "a", 0, 0),
                      (("A",), "a", 0), (("a", ""), "a", 0), (("a", 1), "a", 0), [("a",), "a", 0], (("a",), None, 0),
                      (("a",), "a", None), ("a", "a", 0)):
            self.assertIs(is_ladder(value), False, value)

    def test_heads(self):
        for value in ((("a", "", 0),), (("b", "", 0), ("a", "b", 1)), (("a", "", 0), ("b", "a", 0), ("c", "b", 1)),
                      (("a", "", 0), ("b", "a", 0), ("c", "a", 1), ("d", "c", 1))):
            self.assertIs(is_heads(value), True, value)
        for value in ((), (("a", "", 1),), (("a", "a", 0),), (("a", "b", 0), ("b", "", 0)), (("a", "", 0), ("a", "", 0)),
                      (("a", "", 0), ("b", "a", 2)), (("a", "", 0), ("b", "a", -1)), (("a", "", 0), ("b", "a", True)),
                      (("a", "", False),), (("a", "", 0), ("b", "c", 0)), (("a", None, 0),), (("a", ""),),
                      (("a", "", 0, 0),), [("a", "", 0)], (["a", "", 0],), (("", "", 0),), (("A", "", 0),),
                      tuple((name, "", 0) for name in "abcde"), (("a", "", 0), ("b", ["a"], 0)), (([], "", 0),),
                      (("a", "", 0), ("b", "a", None))):
            self.assertIs(is_heads(value), False, value)

    def test_allowances(self):
        for value in ((0, 0), (2, 2), (1, 0)):
            self.assertIs(is_allowances(value), True)
        for value in ((0, 3), (3, 0), (-1, 0), (0, -1), (0,), (0, 0, 0), [0, 0], (True, 0), (0, False), (0.0, 0), None):
            self.assertIs(is_allowances(value), False, value)

    def test_any_kind(self):
        for ask, good in ((is_ladder, LADDER), (is_heads, HEADS + (("fine", "debt", 1),)), (is_allowances, (0, 2))):
            self.assertIs(ask(good), True)
            for value in mutants(good):
                answer = ask(value)
                self.assertIn(answer, (True, False))
                if not is_plain(value):
                    self.assertIs(answer, False, value)
        self.assertEqual([value for value in ODD if is_ladder(value) or is_heads(value)], [])
        self.assertEqual([value for value in ODD if is_allowances(value)], [(0, 1)])


class Making(unittest.TestCase):
    def test_which_error_comes_first(self):
        good = [LADDER, HEADS, (1, 1), regimes(), ()]
        # Without a rule for a word, and with one thing that is none.
        for bad in range(5):
            for value in ODD[:12] + [(1, 2, 3, 4)]:
                told = list(good)
                told[bad] = value
                told[0] = (("none",), "two", 0) if bad > 0 else value
                with self.assertRaises(Malformed):
                    Matter(*told)
        for ladder in ((("ten", "none"), "two", 0), (("ten",), "none", 0)):
            with self.assertRaises(NotThere):
                Matter(ladder, *good[1:])
        two = ("new", regimes()[1] + ((50, (NONE, (("ten", (10, "days", "next", "no", 0)),))),))
        with self.assertRaises(NotThere):
            Matter(LADDER, HEADS, (1, 1), two, ())

    def test_fields(self):
        stays = (("all", "", 5, None, "rests"),)
        told = Matter(LADDER, HEADS, (1, 2), regimes(), stays)
        self.assertEqual((told.ladder, told.heads, told.allowances, told.regimes, told.stays),
                         (LADDER, HEADS, (1, 2), regimes(), stays))
        told.judge(1, "debt", 1)
        told.appeal(1, "debt")
        self.assertEqual(told.allowances, (1, 2))


class Moves(unittest.TestCase):
    def test_judge(self):
        told = matter()
        self.assertEqual(told.state("debt"), (0, "waits", None, None, 0))
        self.assertEqual(told.judge(5, "debt", 1), "judged")
        self.assertEqual(told.state("debt"), (0, "judged", 1, 5, 0))
        with self.assertRaises(Refused):
            told.judge(5, "debt", 1)
        self.assertEqual(told.judge(5, "costs", 0), "judged")

    def test_appeal(self):
        for result in (0, 1):
            told = matter(allowances=(1, 1))
            with self.assertRaises(Refused):
                told.appeal(5, "debt")
            told.judge(5, "debt", result)
            self.assertEqual(told.appeal(6, "debt"), 1 - result)
            self.assertEqual(told.left(), (1 - result, result))
            self.assertEqual(told.state("debt"), (1, "waits", None, None, 0))
            with self.assertRaises(Refused):
                told.appeal(6, "debt")

    def test_words_of_judgments(self):
        told = matter()
        told.judge(5, "debt", 1)
        told.appeal(5, "debt")
        self.assertEqual(told.judge(5, "debt", 1), "affirmed")
        told.appeal(5, "debt")
        self.assertEqual(told.judge(5, "debt", 0), "turned")
        told = matter()
        told.judge(5, "debt", 1)
        told.appeal(5, "debt")
        self.assertEqual(told.judge(5, "debt", 0), "turned")
        told.appeal(5, "debt")
        # It is held against the last judgment, at the level below.
        self.assertEqual(told.judge(5, "debt", 0), "affirmed")

    def test_sent_back(self):
        told = matter()
        told.judge(5, "debt", 1)
        told.appeal(5, "debt")
        self.assertIsNone(told.send(6, "debt"))
        self.assertEqual(told.state("debt"), (0, "waits", None, None, 1))
        with self.assertRaises(Refused):
            told.send(6, "debt")
        self.assertEqual(told.judge(6, "debt", 0), "judged")
        self.assertEqual(told.appeal(6, "debt"), 1)
        with self.assertRaises(Refused):
            told.send(6, "debt")
        self.assertEqual(told.judge(6, "debt", 0), "affirmed")

    def test_sent_back_to_the_middle(self):
        told = matter()
        told.judge(5, "debt", 1)
        told.appeal(5, "debt")
        told.judge(5, "debt", 1)
        told.appeal(5, "debt")
        told.send(5, "debt")
        self.assertEqual(told.state("debt"), (1, "waits", None, None, 1))
        self.assertEqual(told.judge(5, "debt", 0), "judged")

    def test_no_sends(self):
        told = matter(ladder=(("ten",), "two", 0))
        told.judge(5, "debt", 1)
        with self.assertRaises(Refused):
            told.send(5, "debt")
        told.appeal(5, "debt")
        with self.assertRaises(Refused):
            told.send(5, "debt")

    def test_not_sent_back_when_judged(self):
        told = matter()
        told.judge(5, "debt", 1)
        told.appeal(5, "debt")
        told.judge(5, "debt", 1)
        with self.assertRaises(Refused):
            told.send(5, "debt")

    def test_top_and_allowances(self):
        told = matter(ladder=(("ten",), "two", 0), allowances=(0, 1))
        told.judge(5, "debt", 1)
        self.assertEqual(told.can_appeal(5, "debt"), "")
        with self.assertRaises(Refused):
            told.appeal(5, "debt")
        told.judge(5, "costs", 0)
        self.assertEqual(told.appeal(5, "costs"), 1)
        told.judge(5, "costs", 0)
        self.assertEqual(told.can_appeal(5, "costs"), "")
        with self.assertRaises(Refused):
            told.appeal(5, "costs")

    def test_moves_may_be_changed(self):
        told = matter()
        told.judge(5, "debt", 1)
        told.appeal(6, "debt")
        told.send(7, "debt")
        expected = [(5, "judge", "debt", 1), (6, "appeal", "debt", None), (7, "send", "debt", None)]
        for _ in range(2):
            found = told.moves()
            self.assertEqual(found, expected)
            found.clear()

    def test_errors(self):
        told = matter()
        told.judge(5, "debt", 1)
        moves = told.moves()
        states = [told.state("debt"), told.state("costs"), told.left()]
        for day, head, result, error in (
                (-1, "none", 2, OutOfRange), (LAST + 1, "debt", 1, OutOfRange), (4, "none", 2, OutOfRange),
                (True, "debt", 1, OutOfRange), (None, "debt", 1, OutOfRange), (5, "none", 2, Malformed),
                (5, "none", True, Malformed), (5, "debt", False, Malformed), (5, "debt", None, Malformed),
                (5, "costs", -1, Malformed), (5, "costs", "1", Malformed), (5, "costs", [1], Malformed),
                (5, "none", 1, NotThere), (5, "debt", 1, Refused)):
            with self.assertRaises(error, msg=(day, head, result)):
                told.judge(day, head, result)
        for make in (told.appeal, told.send):
            for day, head, error in ((4, "none", OutOfRange), (LAST + 1, "none", OutOfRange), (5, "none", NotThere),
                                     (5, "costs", Refused)):
                with self.assertRaises(error):
                    make(day, head)
        for day, head, error in ((4, "none", OutOfRange), (-1, "debt", OutOfRange), (5, "none", NotThere)):
            with self.assertRaises(error):
                told.can_appeal(day, head)
        self.assertEqual(told.can_appeal(5, "costs"), "")
        for ask in (told.state, told.value):
            with self.assertRaises(NotThere):
                ask("none")
        self.assertEqual(told.moves(), moves)
        self.assertEqual([told.state("debt"), told.state("costs"), told.left()], states)

    def test_each_move_in_each_state(self):
        dice = random.Random(82)
        seen = set()
        for _ in range(150):
            ladder, heads, allowances = appealing.matter(dice)
            told_regimes = makers.full_regimes(dice, 200)
            stays = makers.stays(dice, 200)
            slow = appealing.Slow(ladder, heads, allowances, told_regimes, stays)
            told = Matter(ladder, heads, allowances, told_regimes, stays)
            moves = appealing.moves(dice, slow, 190, 14)
            for at, move in enumerate(moves):
                before = moves[:at]
                day = move[0] + dice.choice((0, 0, 2, 8))
                may = [other[1:] for other in slow.next_moves(before, day)]
                for head, _, _ in heads:
                    level, result, judged, sent, ahead = slow.head(before, head)
                    self.assertEqual(told.state(head), (level, "waits" if result is None else "judged", result, judged,
                                                        sent))
                    self.assertEqual(told.can_appeal(day, head), slow.can_appeal(before, day, head))
                    seen.add(told.can_appeal(day, head))
                    if day > move[0]:
                        continue
                    for word, args in (("judge", (0,)), ("judge", (1,)), ("appeal", ()), ("send", ())):
                        copy = matter_of(ladder, heads, allowances, told_regimes, stays, before)
                        if (word, head, args[0] if args else None) not in may:
                            with self.assertRaises(Refused):
                                getattr(copy, word)(day, head, *args)
                            self.assertEqual(copy.moves(), before)
                            continue
                        answer = getattr(copy, word)(day, head, *args)
                        if word == "judge":
                            expected = "judged" if ahead is None else "affirmed" if ahead == args[0] else "turned"
                        else:
                            expected = 1 - result if word == "appeal" else None
                        self.assertEqual(answer, expected)
                        seen.add(answer)
                self.assertEqual(told.left(), slow.left(before))
                self.assertEqual([told.value(head) for head, _, _ in heads], list(slow.values(before)))
                getattr(told, move[1])(*(move[:1] + move[2:3] + ((move[3],) if move[1] == "judge" else ())))
        self.assertLessEqual({"time", "answer", "", "judged", "affirmed", "turned", 0, 1}, seen)


class InTime(unittest.TestCase):
    def test_the_last_day(self):
        told = matter()
        told.judge(5, "debt", 1)
        self.assertEqual([told.can_appeal(day, "debt") for day in (5, 15, 16)], ["time", "time", ""])
        with self.assertRaises(Refused):
            told.appeal(16, "debt")
        self.assertEqual(told.appeal(15, "debt"), 0)

    def test_the_level_tells_the_word(self):
        told = matter(ladder=(("ten", "two"), "two", 0))
        told.judge(5, "debt", 1)
        told.appeal(5, "debt")
        told.judge(20, "debt", 1)
        self.assertEqual([told.can_appeal(day, "debt") for day in (20, 22, 23)], ["time", "time", ""])

    def test_answering(self):
        told = matter()
        told.judge(5, "debt", 1)
        told.judge(10, "costs", 0)
        # The side 1, which won the debt, appeals the costs on the day 19: up to the day 21, the debt may be answered.
        self.assertEqual(told.can_appeal(19, "debt"), "")
        self.assertEqual(told.appeal(19, "costs"), 1)
        self.assertEqual([told.can_appeal(day, "debt") for day in (19, 21, 22)], ["answer", "answer", ""])
        self.assertEqual(told.judge(20, "costs", 0), "affirmed")
        self.assertEqual(told.can_appeal(21, "debt"), "answer")
        self.assertEqual(told.appeal(21, "debt"), 0)

    def test_in_time_comes_first(self):
        told = matter()
        told.judge(5, "debt", 1)
        told.judge(5, "costs", 0)
        told.appeal(6, "costs")
        self.assertEqual([told.can_appeal(day, "debt") for day in (6, 8, 9, 15, 16)], ["time"] * 4 + [""])

    def test_not_answering(self):
        # By the side that lost it, from another level, or ahead of the judgment.
        told = matter()
        told.judge(5, "debt", 1)
        told.judge(10, "costs", 1)
        told.appeal(19, "costs")
        self.assertEqual(told.can_appeal(19, "debt"), "")
        told = matter()
        told.judge(5, "costs", 0)
        told.appeal(5, "costs")
        told.judge(6, "costs", 0)
        told.judge(6, "debt", 1)
        told.appeal(16, "costs")
        self.assertEqual([told.can_appeal(day, "debt") for day in (16, 17)], ["time", ""])
        told = matter(told=regimes(ten=(1, "days", "day", "no", 0), two=(30, "days", "next", "no", 0)))
        told.judge(5, "costs", 0)
        told.appeal(5, "costs")
        told.judge(6, "debt", 1)
        self.assertEqual([told.can_appeal(day, "debt") for day in (6, 7)], ["time", ""])
        # By an appeal of the head itself, ahead of its being sent back.
        told = matter(told=regimes(ten=(1, "days", "day", "no", 0), two=(30, "days", "next", "no", 0)))
        told.judge(5, "debt", 0)
        self.assertEqual(told.appeal(5, "debt"), 1)
        told.send(5, "debt")
        told.judge(5, "debt", 1)
        self.assertEqual([told.can_appeal(day, "debt") for day in (5, 6)], ["time", ""])
        # On the day of the judgment it counts.
        told = matter(told=regimes(ten=(1, "days", "day", "no", 0), two=(30, "days", "next", "no", 0)))
        told.judge(5, "costs", 0)
        told.judge(5, "debt", 1)
        told.appeal(5, "costs")
        self.assertEqual([told.can_appeal(day, "debt") for day in (5, 6, 35, 36)], ["time", "answer", "answer", ""])

    def test_each_start_of_another_heads_appeal(self):
        heads = (("costs", "", 0), ("debt", "", 0), ("fine", "", 0))
        told = matter(heads=heads)
        told.judge(5, "debt", 1)
        told.judge(9, "costs", 0)
        told.judge(15, "fine", 0)
        told.appeal(19, "costs")
        told.appeal(25, "fine")
        self.assertEqual([told.can_appeal(day, "debt") for day in (25, 27, 28)], ["answer", "answer", ""])

    def test_without_a_last_day(self):
        told = matter(told=regimes(ten=(1000, "months", "next", "no", 0)))
        told.judge(999000, "debt", 1)
        self.assertEqual([told.can_appeal(day, "debt") for day in (999000, LAST)], ["time", "time"])
        told = matter(told=regimes(ten=(1, "days", "day", "no", 0), two=(1000, "months", "next", "no", 0)))
        told.judge(999000, "debt", 1)
        told.judge(999000, "costs", 0)
        told.appeal(999000, "costs")
        self.assertEqual(told.can_appeal(LAST, "debt"), "answer")

    def test_stays(self):
        told = matter(stays=(("all", "", 10, 20, "rests"),))
        told.judge(5, "debt", 1)
        self.assertEqual([told.can_appeal(day, "debt") for day in (25, 26)], ["time", ""])
        told = matter(stays=(("party", "whoever", 10, None, "anew"),))
        told.judge(5, "debt", 1)
        self.assertEqual([told.can_appeal(day, "debt") for day in (25, LAST)], ["time", "time"])
        told = matter(stays=(("cause", "one", 16, None, "anew"),))
        told.judge(5, "debt", 1)
        self.assertEqual([told.can_appeal(day, "debt") for day in (15, 16)], ["time", ""])

    def test_regimes_of_all_ways(self):
        for way, last in (("old", 15), ("new", 10), ("kind", 15)):
            later = (10, (NONE, (("ten", (3, "days", "next", "no", 0)), ("two", (2, "days", "next", "no", 0)))))
            told = matter(told=(way, regimes()[1] + (later,)))
            told.judge(5, "debt", 1)
            self.assertEqual([told.can_appeal(day, "debt") for day in (last, last + 1)], ["time", ""], way)


class MatterOf(unittest.TestCase):
    def test_moves(self):
        moves = [(5, "judge", "debt", 1), (5, "appeal", "debt", None), (6, "send", "debt", None),
                 (6, "judge", "costs", 0), (7, "judge", "debt", 0)]
        told = matter_of(LADDER, HEADS, (2, 2), regimes(), (), moves)
        self.assertEqual(told.moves(), moves)
        self.assertEqual(told.state("debt"), (0, "judged", 0, 7, 1))
        moves.append((8, "appeal", "debt", None))
        self.assertEqual(len(told.moves()), 5)
        self.assertEqual(matter_of(LADDER, HEADS, (2, 2), regimes(), (), []).moves(), [])

    def test_errors(self):
        good = [(5, "judge", "debt", 1)]

        def make(*more):
            return matter_of(LADDER, HEADS, (2, 2), regimes(), (), good + list(more))
        for move, error in (
                ((4, "judge", "costs", 1), OutOfRange), ((LAST + 1, "judge", "costs", 1), OutOfRange),
                ((5, "judge", "costs", 2), Malformed), ((5, "judge", "costs", None), Malformed),
                ((5, "judge", "none", 1), NotThere), ((5, "judge", "debt", 1), Refused),
                ((5, "appeal", "debt", 0), Malformed), ((5, "send", "costs", 1), Malformed),
                ((5, "send", "costs", None), Refused), ((5, "appeal", "none", None), NotThere),
                ((5, "strike", "debt", None), Malformed), ((5, None, "debt", None), Malformed),
                ((5, ["judge"], "debt", 1), Malformed), ((5, "judge", "costs"), Malformed),
                ((5, "judge", "costs", 1, 1), Malformed), ([5, "judge", "costs", 1], Malformed), ("judge", Malformed),
                (None, Malformed), (7, Malformed), ((), Malformed), ((True, "judge", "costs", 1), OutOfRange)):
            with self.assertRaises(error, msg=move):
                make(move)
        for value in ODD:
            with self.assertRaises(Malformed):
                make(value)
            with self.assertRaises(DocketError):
                make((5, value, "costs", 1))
            with self.assertRaises(DocketError):
                make((5, "send", "costs", value))
            if not (type(value) is int and value in (0, 1)):
                with self.assertRaises(Malformed):
                    make((5, "judge", "costs", value))
        # What comes first in the list is raised first.
        with self.assertRaises(Refused):
            make((5, "judge", "debt", 1), (4, "judge", "costs", 1))
        with self.assertRaises(Malformed):
            matter_of(None, HEADS, (2, 2), regimes(), (), [None])
        with self.assertRaises(NotThere):
            matter_of((("none",), "two", 0), HEADS, (2, 2), regimes(), (), [None])


if __name__ == "__main__":
    unittest.main()
