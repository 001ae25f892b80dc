"""Points 84 to 91: values, ways, endings, prices, and what is final."""

import random
import unittest

import appealing
import makers
from docketloom.appeals import Matter, matter_of
from docketloom.errors import DocketError, Malformed, NotThere, OutOfRange
from docketloom.finality import becomes_final, ending_of, endings, is_final, is_way, may_end, way_to, way_to_ending
from odd import ODD

NONE = ((), (), (), ())
LAST = 1000000
CHAIN = (("debt", "", 0), ("costs", "debt", 1))
PAIR = (("costs", "", 0), ("debt", "", 0))


def regimes(ten=(10, "days", "next", "no", 0), two=(2, "days", "next", "no", 0)):
    return ("old", ((0, (NONE, (("ten", ten), ("two", two)))),))


def matter(heads=CHAIN, allowances=(1, 1), levels=1, sends=0, told=None, stays=()):
    return Matter((("ten",) * levels, "two", sends), heads, allowances, told or regimes(), stays)


def appeals(way):
    return [word for _, word, _, _ in way].count("appeal")


class Document(unittest.TestCase):
    def test_example(self):
        told = matter()
        self.assertEqual((told.judge(100, "debt", 1), told.judge(105, "costs", 0)), ("judged", "judged"))
        self.assertIs(is_final(told, 111, "debt"), False)
        self.assertEqual(may_end(told, 111, "debt"), {0: 2, 1: 0})
        self.assertEqual(may_end(told, 111, "costs"), {0: 0, 1: 1, None: 2})
        self.assertEqual(endings(told, 116), {(1, 0): 0})
        self.assertEqual((becomes_final(told, 105, "debt"), becomes_final(told, 105, "costs")), (116, 116))


class HeadValues(unittest.TestCase):
    def values(self, told):
        return [told.value(head) for head, _, _ in told.heads]

    def test_parents(self):
        heads = (("aa", "", 0), ("bb", "aa", 1), ("cc", "bb", 0), ("dd", "aa", 0))
        told = matter(heads=heads)
        self.assertEqual(self.values(told), [None] * 4)
        for head, result in (("bb", 0), ("cc", 1), ("dd", 1)):
            told.judge(5, head, result)
        # The parent waits.
        self.assertEqual(self.values(told), [None] * 4)
        told.judge(5, "aa", 1)
        self.assertEqual(self.values(told), [1, 0, 1, None])
        told.appeal(5, "aa")
        self.assertEqual(self.values(told), [None] * 4)
        told.judge(5, "aa", 0)
        # With the first one the second one falls, and with it the third one.
        self.assertEqual(self.values(told), [0, None, None, 1])

    def test_waiting(self):
        told = matter()
        told.judge(5, "debt", 1)
        self.assertEqual(self.values(told), [1, None])
        told.judge(5, "costs", 0)
        self.assertEqual(self.values(told), [1, 0])
        told.appeal(5, "costs")
        self.assertEqual(self.values(told), [1, None])


class Endings(unittest.TestCase):
    def test_waiting_heads_have_no_price(self):
        told = matter()
        self.assertEqual(endings(told, 5), {(0, None): 0, (1, 0): 0, (1, 1): 0})
        told.judge(5, "debt", 1)
        self.assertEqual(endings(told, 50), {(1, 0): 0, (1, 1): 0, (0, None): 2})
        self.assertEqual(endings(told, 5), {(1, 0): 0, (1, 1): 0, (0, None): 1})
        self.assertEqual(endings(matter(allowances=(0, 0)), 5), {(0, None): 0, (1, 0): 0, (1, 1): 0})

    def test_final_and_not(self):
        told = matter(heads=PAIR)
        told.judge(5, "debt", 1)
        told.judge(8, "costs", 0)
        # The term of the debt has passed; but the costs may come to be appealed by the side that won it.
        self.assertIs(is_final(told, 16, "debt"), False)
        self.assertEqual(may_end(told, 16, "debt"), {1: 0, 0: 2})
        self.assertIs(is_final(told, 19, "debt"), True)
        self.assertEqual(becomes_final(told, 8, "debt"), 19)
        told = matter(heads=PAIR, allowances=(1, 0))
        told.judge(5, "debt", 1)
        told.judge(8, "costs", 0)
        self.assertEqual(becomes_final(told, 8, "debt"), 16)
        self.assertEqual(becomes_final(told, 8, "costs"), 8)

    def test_at_the_top_by_its_parent(self):
        told = matter(allowances=(1, 1))
        told.judge(5, "costs", 1)
        told.appeal(5, "costs")
        told.judge(5, "costs", 1)
        told.judge(9, "debt", 1)
        self.assertEqual(told.state("costs")[:2], (1, "judged"))
        # The side 0 has no appeal left, so that the debt is final, and with it the costs.
        self.assertEqual([is_final(told, 9, head) for head in ("debt", "costs")], [True, True])
        told = matter(allowances=(2, 1))
        told.judge(5, "costs", 1)
        told.appeal(5, "costs")
        told.judge(5, "costs", 1)
        told.judge(9, "debt", 1)
        self.assertEqual([is_final(told, 19, head) for head in ("debt", "costs")], [False, False])
        self.assertEqual([becomes_final(told, 9, head) for head in ("debt", "costs")], [20, 20])

    def test_a_head_that_fell_is_final_with_its_parent(self):
        told = matter(allowances=(2, 2))
        told.judge(5, "debt", 0)
        # The side 0 could appeal the costs, if they are judged against it, and so have the debt opened.
        self.assertEqual(may_end(told, 50, "costs"), {None: 0, 0: 2, 1: 2})
        told = matter(allowances=(0, 2))
        told.judge(5, "debt", 0)
        self.assertEqual(may_end(told, 50, "costs"), {None: 0})
        self.assertIs(is_final(told, 50, "costs"), True)
        self.assertEqual(becomes_final(told, 5, "costs"), 16)

    def test_becomes_final(self):
        told = matter(heads=(("debt", "", 0),), told=regimes(ten=(1000, "months", "next", "no", 0)))
        self.assertIsNone(becomes_final(told, 5, "debt"))
        told.judge(999000, "debt", 1)
        self.assertIsNone(becomes_final(told, 999000, "debt"))
        self.assertIsNone(becomes_final(told, LAST, "debt"))
        told = matter(heads=(("debt", "", 0),))
        told.judge(999989, "debt", 1)
        self.assertEqual(becomes_final(told, 999989, "debt"), LAST)
        told = matter(heads=(("debt", "", 0),))
        told.judge(999990, "debt", 1)
        self.assertIsNone(becomes_final(told, 999990, "debt"))
        told = matter(heads=(("debt", "", 0),), stays=(("all", "", 7, None, "rests"),))
        told.judge(5, "debt", 1)
        self.assertIsNone(becomes_final(told, 5, "debt"))
        told = matter(heads=(("debt", "", 0),))
        told.judge(5, "debt", 1)
        self.assertEqual([becomes_final(told, day, "debt") for day in (5, 15, 16, 17, LAST)], [16, 16, 16, 17, LAST])

    def test_sends_and_answers_from_above(self):
        # Only by being sent back and appealed again does the costs' head bring about the answering appeal.
        heads = PAIR
        for sends, price in ((0, None), (1, 2)):
            told = matter(heads=heads, allowances=(1, 2), sends=sends)
            told.judge(5, "debt", 1)
            told.judge(5, "costs", 0)
            self.assertEqual(told.appeal(5, "costs"), 1)
            # Behind the 10 days of the debt's term, and the 2 days for answering.
            self.assertEqual(may_end(told, 50, "debt"), {1: 0} if price is None else {1: 0, 0: price})
            way = way_to(told, 50, "debt", 0)
            if price is None:
                self.assertIsNone(way)
            else:
                self.assertIs(is_way(told, 50, way), True)
                self.assertEqual([row[1:3] for row in way if row[1] != "judge"],
                                 [("send", "costs"), ("appeal", "costs"), ("appeal", "debt")])

    def test_sent_back_once(self):
        # From the level 2 the costs come down to the level 1 only.
        told = matter(heads=PAIR, allowances=(2, 2), levels=3, sends=1)
        told.judge(5, "debt", 1)
        told.judge(5, "costs", 0)
        told.appeal(5, "costs")
        told.judge(5, "costs", 1)
        told.appeal(5, "costs")
        self.assertEqual((told.left(), told.state("costs")[0]), ((1, 1), 2))
        self.assertEqual(may_end(told, 50, "debt"), {1: 0})

    def test_becomes_final_behind_the_answer(self):
        told = matter(heads=PAIR)
        told.judge(5, "debt", 1)
        told.judge(14, "costs", 0)
        self.assertEqual(told.appeal(20, "costs"), 1)
        # The side 0 can answer up to the day 22.
        self.assertEqual([is_final(told, day, "debt") for day in (20, 22, 23)], [False, False, True])
        self.assertEqual([becomes_final(told, day, "debt") for day in (20, 22, 23, 24)], [23, 23, 23, 24])
        self.assertIsNone(becomes_final(told, 20, "costs"))

    def test_errors(self):
        told = matter()
        told.judge(5, "debt", 1)
        moves = told.moves()
        way = [(5, "judge", "costs", 1)]
        asked = (lambda day, head: endings(told, day), lambda day, head: may_end(told, day, head),
                 lambda day, head: is_final(told, day, head), lambda day, head: becomes_final(told, day, head),
                 lambda day, head: way_to(told, day, head, 1), lambda day, head: way_to_ending(told, day, (1, 1)),
                 lambda day, head: is_way(told, day, way))
        for at, ask in enumerate(asked):
            for day in (4, -1, LAST + 1, None, True):
                with self.assertRaises(OutOfRange):
                    ask(day, "none")
            if at in (1, 2, 3, 4):
                with self.assertRaises(NotThere):
                    ask(5, "none")
            ask(5, "debt")
        for ending in ((), None, (2, 2)):
            with self.assertRaises(OutOfRange):
                way_to_ending(told, 4, ending)
        with self.assertRaises(OutOfRange):
            way_to(told, 4, "debt", True)
        with self.assertRaises(NotThere):
            way_to(told, 5, "none", True)
        self.assertEqual(told.moves(), moves)
        # Without a move, each day will do.
        self.assertEqual(len(endings(matter(), 0)), 3)

    def test_answers_may_be_changed(self):
        told = matter()
        for ask in (lambda: endings(told, 5), lambda: may_end(told, 5, "debt"), lambda: way_to(told, 5, "debt", 1)):
            found = ask()
            found.clear()
            self.assertGreater(len(ask()), 0)


class Search(unittest.TestCase):
    def check(self, told, slow, moves, day):
        expected = slow.endings(moves, [day])
        self.assertEqual(endings(told, day), expected)
        for at, (head, _, _) in enumerate(told.heads):
            prices = {}
            for ending, price in expected.items():
                prices[ending[at]] = min(price, prices.get(ending[at], 9))
            self.assertEqual(may_end(told, day, head), prices)
            self.assertIs(is_final(told, day, head), len(prices) == 1)
            for value in (0, 1, None):
                way = way_to(told, day, head, value)
                if value not in prices:
                    self.assertIsNone(way)
                    continue
                self.assertIs(is_way(told, day, way), True)
                self.assertEqual(ending_of(told, way)[at], value)
                self.assertEqual(appeals(way), prices[value])
                self.assertLessEqual(len(way), 20)
        for ending, price in expected.items():
            way = way_to_ending(told, day, ending)
            self.assertIs(is_way(told, day, way), True)
            self.assertEqual(slow.values(moves + way), ending)
            self.assertEqual(ending_of(told, way), ending)
            self.assertEqual(appeals(way), price)
        return expected

    def test_small_matters(self):
        dice = random.Random(85)
        prices = {}
        for _ in range(400):
            ladder, heads, allowances = appealing.matter(dice, 2, (1, 2))
            told_regimes = makers.full_regimes(dice, 200)
            stays = makers.stays(dice, 200)
            slow = appealing.Slow(ladder, heads, allowances, told_regimes, stays)
            moves = appealing.moves(dice, slow, 190, dice.randint(0, 10))
            told = matter_of(ladder, heads, allowances, told_regimes, stays, moves)
            day = (moves[-1][0] if moves else 190) + dice.choice((0, 1, 5, 40, 200))
            for price in self.check(told, slow, moves, day).values():
                prices[price] = prices.get(price, 0) + 1
        self.assertLessEqual({0, 1, 2}, set(prices))

    def test_three_heads(self):
        dice = random.Random(86)
        most = 0
        for _ in range(60):
            ladder, heads, _ = appealing.matter(dice, 3, (1, 2))
            allowances = dice.choice(((1, 1), (2, 1), (1, 2)))
            told_regimes = regimes()
            ladder = (("ten",) * len(ladder[0]), "two", ladder[2])
            slow = appealing.Slow(ladder, heads, allowances, told_regimes, ())
            moves = appealing.moves(dice, slow, 190, dice.randint(2, 9))
            # Most heads have been judged, so that the search comes to its end.
            for head, _, _ in heads:
                if slow.head(moves, head)[1] is None:
                    moves.append((moves[-1][0], "judge", head, dice.randint(0, 1)))
            told = matter_of(ladder, heads, allowances, told_regimes, (), moves)
            day = moves[-1][0] + dice.choice((1, 4, 11, 11))
            most = max([most] + list(self.check(told, slow, moves, day).values()))
        self.assertGreater(most, 0)

    def test_high_levels(self):
        dice = random.Random(87)
        seen = set()
        for _ in range(120):
            ladder = (("ten",) * dice.choice((2, 3)), "two", dice.randint(0, 1))
            slow = appealing.Slow(ladder, PAIR, (2, 2), regimes(), ())
            moves = [(190, "judge", "debt", dice.randint(0, 1))]
            moves += [(move[0] + 190,) + move[1:] for move in [(0, "appeal", "debt", None), (0, "judge", "debt", 0)]]
            day = 190
            for _ in range(dice.randint(0, 6)):
                day += dice.choice((0, 0, 5, 11))
                told = slow.next_moves(moves, day)
                if told:
                    moves.append(dice.choice(told))
            told = matter_of(ladder, PAIR, (2, 2), regimes(), (), moves)
            day = moves[-1][0] + dice.choice((5, 11, 11))
            seen |= set(self.check(told, slow, moves, day).values())
        self.assertEqual(seen, {0, 1, 2, 3})

    def test_only_the_day_matters(self):
        dice = random.Random(861)
        for _ in range(60):
            ladder, heads, _ = appealing.matter(dice, 2, (1,))
            ladder = (("ten",), "two", ladder[2])
            slow = appealing.Slow(ladder, heads, (1, 1), regimes(), ())
            moves = appealing.moves(dice, slow, 190, dice.randint(1, 6))
            told = matter_of(ladder, heads, (1, 1), regimes(), (), moves)
            day = moves[-1][0] + dice.choice((0, 8, 11))
            expected = slow.endings(moves, [day, day + 1, day + 2, day + 9])
            self.assertEqual(endings(told, day), expected)
            # An ending from a later day on is one from an earlier day on, too.
            later = endings(told, day + 5)
            self.assertTrue(all(later[ending] >= expected[ending] for ending in later))

    def test_allowances_and_sends_never_take_an_ending_away(self):
        dice = random.Random(88)
        for _ in range(80):
            ladder, heads, allowances = appealing.matter(dice, 4, (1, 2, 3), (0, 1))
            slow = appealing.Slow(ladder[:2] + (0,), heads, allowances, makers.full_regimes(dice, 200), ())
            moves = appealing.moves(dice, slow, 190, 6)
            day = moves[-1][0] + 5
            told_regimes = makers.full_regimes(dice, 200)
            found = []
            for sends, more in ((0, (0, 0)), (1, (0, 0)), (1, (1, 0)), (1, (1, 1))):
                more = (allowances[0] + more[0], allowances[1] + more[1])
                try:
                    told = matter_of(ladder[:2] + (sends,), heads, more, told_regimes, (), moves)
                except DocketError:
                    break
                found.append(endings(told, day))
            for one, other in zip(found, found[1:]):
                self.assertTrue(all(other[ending] <= one[ending] for ending in one))

    def test_becomes_final_day_by_day(self):
        dice = random.Random(91)
        found = set()
        for _ in range(120):
            ladder, heads, allowances = appealing.matter(dice)
            told_regimes = makers.full_regimes(dice, 200)
            stays = makers.stays(dice, 200)
            slow = appealing.Slow(ladder, heads, allowances, told_regimes, stays)
            moves = appealing.moves(dice, slow, 190, 12)
            told = matter_of(ladder, heads, allowances, told_regimes, stays, moves)
            low = moves[-1][0]
            for head, _, _ in heads:
                day = becomes_final(told, low, head)
                answers = [is_final(told, later, head) for later in range(low, low + 60)]
                # What is final stays so.
                self.assertEqual(answers, sorted(answers))
                if True in answers:
                    self.assertEqual(day, low + answers.index(True))
                    self.assertEqual(becomes_final(told, low + 20, head), max(day, low + 20))
                else:
                    self.assertTrue(day is None or day >= low + 60)
                found.add(None if day is None else day - low > 0)
                if day is not None and day > low + 60:
                    self.assertIs(is_final(told, day, head), True)
                    self.assertIs(is_final(told, day - 1, head), False)
                if day is None:
                    self.assertIs(is_final(told, LAST, head), False)
        self.assertEqual(found, {None, True, False})

    def test_greatest_size(self):
        # Four heads, three levels, two appeals for each side, one sending back.
        heads = (("aa", "", 0), ("bb", "aa", 1), ("cc", "bb", 0), ("dd", "cc", 1))
        told = matter(heads=heads, allowances=(2, 2), levels=3, sends=1)
        for head in ("aa", "bb", "cc", "dd"):
            told.judge(5, head, 1)
        self.assertEqual(may_end(told, 5, "dd"), {None: 0, 1: 1, 0: 2})
        # Behind all terms, no one can begin.
        self.assertEqual(endings(told, 50), {(1, 1, None, None): 0})
        told = matter(heads=heads, allowances=(2, 2), levels=3, sends=1)
        for head in ("aa", "bb", "cc"):
            told.judge(5, head, 1)
        # The last head waits: by its appeals, all others can be opened that the side 1 has won, two of them.
        self.assertEqual(may_end(told, 50, "aa"), {1: 0, 0: 2})
        self.assertEqual(may_end(told, 50, "cc"), {None: 0, 0: 3, 1: 2})
        self.assertEqual(may_end(told, 50, "dd"), {None: 0, 0: 2, 1: 2})

    def test_up_to_the_level_of_the_answer(self):
        # The debt was judged at the level 2. Costs, which wait at the level 0, come up there by two appeals of either
        # side; the third one, by the side that won the debt, can be answered.
        told = matter(heads=PAIR, allowances=(2, 2), levels=3)
        told.judge(5, "debt", 1)
        told.appeal(5, "debt")
        told.judge(5, "debt", 0)
        told.appeal(5, "debt")
        told.judge(5, "debt", 1)
        self.assertEqual(told.left(), (1, 1))
        self.assertEqual(may_end(told, 50, "debt"), {1: 0})
        told = matter(heads=PAIR, allowances=(2, 2), levels=3)
        told.judge(5, "debt", 0)
        told.appeal(5, "debt")
        told.judge(5, "debt", 0)
        self.assertEqual(told.left(), (2, 1))
        # Level 0 by the side 1 or 0, level 1 by the side 0, which won; then the side 1 answers.
        self.assertEqual(may_end(told, 50, "debt"), {0: 0, 1: 3})
        way = way_to(told, 50, "debt", 1)
        self.assertEqual([(word, head) for _, word, head, _ in way if word == "appeal"],
                         [("appeal", "costs"), ("appeal", "costs"), ("appeal", "debt")])


class Ways(unittest.TestCase):
    def made(self):
        told = matter(heads=PAIR, levels=2, sends=1, allowances=(2, 2))
        told.judge(5, "debt", 1)
        return told

    def test_ways(self):
        told = self.made()
        good = [(6, "appeal", "debt", None), (7, "send", "debt", None), (7, "judge", "debt", 0), (9, "judge", "costs", 1)]
        self.assertIs(is_way(told, 5, good), True)
        self.assertIs(is_way(told, 6, good), True)
        self.assertIs(is_way(told, 7, good), False)
        self.assertEqual(ending_of(told, good), (1, 0))
        self.assertIs(is_way(told, 5, []), False)
        for bad in (good[:3], good[:2], good[1:], good[::-1], good + good[3:], tuple(good), None,
                    [(4, "judge", "costs", 1)], [(6, "judge", "costs", 1), (5, "appeal", "debt", None)],
                    [list(move) for move in good], good + [(9, "appeal", "costs", None)], [None], [()],
                    [(16, "appeal", "debt", None), (16, "judge", "debt", 0), (16, "judge", "costs", 0)]):
            self.assertIs(is_way(told, 5, bad), False, bad)
            with self.assertRaises(Malformed):
                ending_of(told, bad)
        first = [(0, "judge", "costs", 1), (0, "judge", "debt", 1)]
        self.assertEqual(ending_of(matter(heads=PAIR), first), (1, 1))
        self.assertIs(is_way(matter(heads=PAIR), 0, first), True)
        told.judge(20, "costs", 1)
        self.assertIs(is_way(told, 20, []), True)
        self.assertEqual(ending_of(told, []), (1, 1))
        self.assertEqual(way_to_ending(told, 50, (1, 1)), [])
        self.assertIsNone(way_to_ending(told, 50, (0, 1)))

    def test_one_thing_changed(self):
        told = self.made()
        good = way_to(told, 5, "debt", 0)
        self.assertIs(is_way(told, 5, good), True)
        for at, move in enumerate(good):
            for part in range(4):
                for value in ODD + ["judge", "send", "appeal", "debt", "costs"]:
                    changed = move[:part] + (value,) + move[part + 1:]
                    way = good[:at] + [changed] + good[at + 1:]
                    answer = is_way(told, 5, way)
                    slow = appealing.Slow(told.ladder, told.heads, told.allowances, told.regimes, ())
                    expected = self.is_slow_way(slow, told.moves(), way, 5)
                    self.assertIs(answer, expected, way)
            self.assertIs(is_way(told, 5, good[:at] + good[at + 1:]), False)
        for value in ODD:
            self.assertIs(is_way(told, 5, value), False)
            self.assertIs(is_way(told, 5, good + [value]), False)
            with self.assertRaises(Malformed):
                ending_of(told, value)

    def is_slow_way(self, slow, moves, way, day):
        course = list(moves)
        for move in way:
            day_of_move = move[0]
            if type(day_of_move) is not int or not day <= day_of_move <= LAST:
                return False
            day = day_of_move
            if not any(move == other and [type(part) for part in move] == [type(part) for part in other]
                       for other in slow.next_moves(course, day)):
                return False
            course.append(move)
        return not slow.waits(course)

    def test_nothing_is_changed_by_asking(self):
        told = self.made()
        before = (told.moves(), told.state("debt"), told.state("costs"), told.left())
        way = way_to(told, 6, "debt", 0)
        is_way(told, 6, way)
        is_way(told, 6, way[:1])
        ending_of(told, way)
        endings(told, 6)
        becomes_final(told, 6, "debt")
        self.assertEqual((told.moves(), told.state("debt"), told.state("costs"), told.left()), before)

    def test_no_such_ending(self):
        told = self.made()
        for ending in ((), (1,), (1, 1, 1), (None, 1), (2, 1), (True, 1), [1, 1], "aa", (None, None)):
            self.assertIsNone(way_to_ending(told, 5, ending), ending)
        for value in (2, -1, True, "1"):
            self.assertIsNone(way_to(told, 5, "debt", value))
        self.assertIsNone(way_to(told, 5, "debt", None))


if __name__ == "__main__":
    unittest.main()
