"""Points 140 to 146 and 155: promises, courses, states, moves, dealings, mornings."""

import random
import unittest

from docketloom.bounds import Promise, is_day, is_move, is_state, is_within, moves, start_state
from docketloom.courses import (dealings, earliest_first, filed_rows, is_lawful, next_morning, run_course)
from docketloom.errors import DocketError, Malformed, OutOfRange, Refused
from odd import ODD, is_plain, mutants, same
from promising import all_days, random_course, random_promise, slow_dealings, slow_morning, slow_rows, within

KIND = ((0, 1), 2, 3, 2)
TWO = Promise(2, [((0, 1), 1, 3, 2), ((1,), 0, 1, 3)], (1, 4))


class Promises(unittest.TestCase):
    def raises(self, judges, kinds, absences):
        try:
            Promise(judges, kinds, absences)
        except DocketError as error:
            return type(error)
        return None

    def test_good_ones(self):
        for judges, kinds, absences in ((2, [KIND], (0, 1)), (4, [KIND] * 4, (8, 6)), (1, [((0,), 0, 1, 1)], (0, 6)),
                                        (4, [((0, 1, 2, 3), 8, 8, 6)], (8, 1)), (4, [((3,), 1, 1, 1)], (1, 1))):
            kept = list(kinds)
            promise = Promise(judges, kinds, absences)
            self.assertEqual(kinds, kept)
            self.assertTrue(same((promise.judges, promise.kinds, promise.absences), (judges, tuple(kinds), absences)))
            kinds.append(None)
            self.assertEqual(promise.kinds, tuple(kept))

    def test_out_of_range_comes_first(self):
        for judges in (0, 5, -1, 10 ** 20):
            self.assertIs(self.raises(judges, [KIND], (0, 1)), OutOfRange)
            self.assertIs(self.raises(judges, [None], None), OutOfRange)
        for kinds in ([], [KIND] * 5, [None] * 5):
            self.assertIs(self.raises(2, kinds, (0, 1)), OutOfRange)
            self.assertIs(self.raises(2, kinds, None), OutOfRange)

    def test_each_bound(self):
        for kind in ((KIND[0], -1, 3, 2), (KIND[0], 9, 3, 2), (KIND[0], 2, 0, 2), (KIND[0], 2, 9, 2), (KIND[0], 2, 3, 0),
                     (KIND[0], 2, 3, 7), ((), 2, 3, 2), ((0, 2), 2, 3, 2), ((1, 0), 2, 3, 2), ((0, 0), 2, 3, 2),
                     ((-1, 0), 2, 3, 2), ([0, 1], 2, 3, 2), [(0, 1), 2, 3, 2], (KIND[0], True, 3, 2),
                     (KIND[0], 2, True, 2), (KIND[0], 2, 3, True), ((False, True), 2, 3, 2), KIND[:3], KIND + (1,)):
            self.assertIs(self.raises(2, [kind], (0, 1)), Malformed, kind)
            self.assertIs(self.raises(2, [KIND, kind], (0, 1)), Malformed, kind)
        for absences in ((-1, 1), (9, 1), (0, 0), (0, 7), (False, 1), (0, True), [0, 1], (0,), (0, 1, 1)):
            self.assertIs(self.raises(2, [KIND], absences), Malformed, absences)

    def test_any_kind(self):
        for value in mutants(KIND):
            if value != KIND or not is_plain(value):
                expected = self.raises(2, [value], (0, 1))
                self.assertIn(expected, (Malformed, None))
                if not is_plain(value):
                    self.assertIs(expected, Malformed, value)
        for value in ODD:
            self.assertIs(self.raises(2, [value], (0, 1)), Malformed)
            if not (type(value) is tuple and value == (0, 1)):
                self.assertIs(self.raises(2, [KIND], value), Malformed, value)


class Days(unittest.TestCase):
    def test_days(self):
        for day in (((0, 0), ()), ((3, 10 ** 30), (0, 1)), ((5, 0), (1,))):
            self.assertIs(is_day(TWO, day), True)
        for day in (((0,), ()), ((0, 0, 0), ()), ((0, -1), ()), ((0, True), ()), ((0, 0), (2,)), ((0, 0), (-1,)),
                    ((0, 0), (1, 0)), ((0, 0), (0, 0)), ((0, 0), (False,)), ([0, 0], ()), ((0, 0), []), [(0, 0), ()],
                    ((0, 0),), ((0, 0), (), ())):
            self.assertIs(is_day(TWO, day), False, day)
        for value in mutants(((1, 0), (0,))):
            answer = is_day(TWO, value)
            self.assertIn(answer, (True, False))
            if not is_plain(value):
                self.assertIs(answer, False, value)

    def test_lengths_of_courses(self):
        day = ((0, 0), ())
        self.assertIs(is_within(TWO, []), True)
        self.assertIs(is_within(TWO, [day] * 400), True)
        self.assertIs(is_within(TWO, [day] * 401), False)
        self.assertIs(is_within(TWO, [day] * 399 + [None]), False)
        for value in ODD:
            self.assertIs(is_within(TWO, [value]), False)

    def test_windows_at_the_ends(self):
        promise = Promise(3, [((0,), 0, 2, 6)], (3, 5))
        two = ((2,), ())
        none = ((0,), ())
        self.assertIs(is_within(promise, [two]), True)
        self.assertIs(is_within(promise, [((3,), ())]), False)
        self.assertIs(is_within(promise, [two] + [none] * 5 + [two]), True)
        self.assertIs(is_within(promise, [two] + [none] * 4 + [((1,), ())]), False)
        self.assertIs(is_within(promise, [((0,), (0, 1, 2))] + [none] * 4 + [((0,), (1,))]), True)
        self.assertIs(is_within(promise, [((0,), (0, 1, 2))] + [none] * 3 + [((0,), (1,))]), False)

    def test_against_all_windows(self):
        dice = random.Random(141)
        for _ in range(400):
            promise = random_promise(dice)
            course = random_course(dice, promise, dice.randint(0, 12))
            self.assertIs(is_within(promise, course), True)
            if course and dice.random() < 0.7:
                at = dice.randrange(len(course))
                filed = list(course[at][0])
                filed[dice.randrange(len(filed))] += 1
                course[at] = (tuple(filed), course[at][1])
            if course and dice.random() < 0.3:
                course.pop(dice.randrange(len(course)))
            self.assertIs(is_within(promise, course), within(promise, course))


class States(unittest.TestCase):
    def test_start(self):
        self.assertEqual(start_state(TWO), (((0,), ()), ((0,), (0, 0)), (0, 0, 0)))
        self.assertEqual(start_state(Promise(1, [((0,), 0, 1, 1)], (0, 1))), (((),), ((),), ()))

    def test_states(self):
        good = (((4,), ()), ((9,), (0, 10 ** 20)), (0, 8, 9))
        self.assertIs(is_state(TWO, good), True)
        for value in ((((4,), ()), ((9,), (0, 1)), (0, 8)), (((4,), ()), ((9,), (0,)), (0, 8, 9)), (((4,),), ((9,), (0, 1)), (0, 8, 9)),
                      (((4, 1), ()), ((9,), (0, 1)), (0, 8, 9)), (((-1,), ()), ((9,), (0, 1)), (0, 8, 9)),
                      (((True,), ()), ((9,), (0, 1)), (0, 8, 9)), (((4,), ()), ((9,), (0, 1)), (0, 8, False)),
                      ([(4,), ()], ((9,), (0, 1)), (0, 8, 9)), (((4,), ()), ((9,), (0, -1)), (0, 8, 9)), (((4,), ()), ((9,), (0, 1)))):
            self.assertIs(is_state(TWO, value), False, value)
        for value in mutants(good):
            answer = is_state(TWO, value)
            self.assertIn(answer, (True, False))
            if not is_plain(value):
                self.assertIs(answer, False, value)

    def test_moves_against_all_days(self):
        dice = random.Random(144)
        for _ in range(150):
            promise = random_promise(dice)
            state = start_state(promise)
            past = (tuple(dice.choice((0, 0, 1, 2)) for _ in state[2]))
            pasts = tuple(tuple(dice.choice((0, 0, 0, 1, 3)) for _ in row) for row in state[1])
            state = (state[0], pasts, past)
            found = moves(promise, state)
            told = []
            for day in all_days(promise, 4):
                keeps = all(sum(row) + filed <= kind[2] for row, filed, kind in zip(pasts, day[0], promise.kinds))
                if keeps and sum(past) + len(day[1]) <= promise.absences[0]:
                    told.append(day)
                self.assertIs(is_move(promise, state, day), day in told)
            self.assertEqual(found, told)

    def test_pasts_beyond_their_bound(self):
        self.assertEqual(moves(TWO, (((0,), ()), ((4,), (0, 0)), (0, 0, 0))), [])
        self.assertEqual(moves(TWO, (((0,), ()), ((0,), (1, 1)), (0, 0, 0))), [])
        self.assertEqual(moves(TWO, (((0,), ()), ((0,), (0, 0)), (1, 0, 1))), [])
        self.assertEqual(moves(TWO, (((0,), ()), ((3,), (1, 0)), (0, 0, 1))), [((0, 0), ())])
        self.assertIs(is_move(TWO, (((0,), ()), ((4,), (0, 0)), (0, 0, 0)), ((0, 0), ())), False)
        self.assertIs(is_move(TWO, (((0,), ()), ((0,), (0, 0)), (1, 0, 1)), ((0, 0), ())), False)

    def test_any_move(self):
        start = start_state(TWO)
        self.assertIs(is_move(TWO, start, ((3, 1), (1,))), True)
        for value in ODD + [((4, 0), ()), ((0, 2), ()), ((0, 0), (0, 1)), ((True, 0), ()), [(0, 0), ()], ((0, 0), [])]:
            self.assertIs(is_move(TWO, start, value), False, value)

    def test_many_moves(self):
        promise = Promise(4, [((0,), 8, 8, 6)] * 4, (8, 6))
        found = moves(promise, start_state(promise))
        self.assertEqual(len(found), 9 ** 4 * 16)
        self.assertEqual((found[0], found[-1]), (((0, 0, 0, 0), ()), ((8, 8, 8, 8), (3,))))


class Dealings(unittest.TestCase):
    def test_against_single_causes(self):
        dice = random.Random(145)
        fallen = 0
        for _ in range(120):
            promise = random_promise(dice, 4)
            state = start_state(promise)
            for move in random_course(dice, promise, 6):
                self.assertTrue(same(filed_rows(promise, state, move), slow_rows(state, move)))
                lawful = slow_dealings(promise, state, move)
                self.assertEqual(dealings(promise, state, move), lawful)
                for _ in range(6):
                    value = tuple(dice.randint(-2, len(promise.kinds)) for _ in range(promise.judges))
                    self.assertIs(is_lawful(promise, state, move, value), value in lawful)
                    if value not in lawful:
                        with self.assertRaises(Refused):
                            next_morning(promise, state, move, value)
                mornings = {dealing: slow_morning(promise, state, move, dealing) for dealing in lawful}
                for dealing, morning in mornings.items():
                    self.assertTrue(same(next_morning(promise, state, move, dealing), morning))
                left = [morning for morning in mornings.values() if morning is not None]
                if not left:
                    fallen += 1
                    break
                state = dice.choice(left)
        self.assertGreater(fallen, 10)

    def test_any_dealing(self):
        start = start_state(TWO)
        move = ((1, 1), ())
        for value in ODD + [(0,), (0, 1, -1), [0, 1], (False, 1), (0, True), (0, 2), (-2, 0), (1, 0), (0, 0), (0.0, 1)]:
            if not (type(value) is tuple and value in ((0, 1), (-1, 1))):
                self.assertIs(is_lawful(TWO, start, move, value), False, value)
                with self.assertRaises(Refused):
                    next_morning(TWO, start, move, value)
        self.assertIs(is_lawful(TWO, start, move, (0, 1)), True)
        self.assertIs(is_lawful(TWO, start, ((1, 1), (1,)), (0, 1)), False)
        self.assertIs(is_lawful(TWO, start, ((1, 1), (1,)), (0, -1)), True)

    def test_falls_ahead_of_unlawful(self):
        # A day that falls is None only for a lawful dealing.
        start = start_state(TWO)
        self.assertIsNone(next_morning(TWO, start, ((0, 1), ()), (-1, -1)))
        with self.assertRaises(Refused):
            next_morning(TWO, start, ((0, 1), ()), (1, -1))

    def test_earliest_first(self):
        dice = random.Random(155)
        for _ in range(300):
            promise = random_promise(dice, 4)
            state = start_state(promise)
            state = (tuple(tuple(dice.randint(0, 2) for _ in row) for row in state[0]), state[1], state[2])
            move = dice.choice(moves(promise, state))
            causes = sorted((left, kind) for kind, row in enumerate(slow_rows(state, move))
                            for left, many in enumerate(row) for _ in range(many))
            told = []
            for judge in range(promise.judges):
                able = [cause for cause in causes if judge not in move[1] and judge in promise.kinds[cause[1]][0]]
                told.append(able[0][1] if able else -1)
                if able:
                    causes.remove(able[0])
            self.assertTrue(same(earliest_first(promise, state, move), tuple(told)))
            self.assertIs(is_lawful(promise, state, move, tuple(told)), True)

    def test_less_waiting_never_hurts_a_day(self):
        # A cause less, or a day more for one, leaves a day that need not fall as it is.
        dice = random.Random(146)
        for _ in range(300):
            promise = random_promise(dice, 3, terms=(1, 2))
            state = start_state(promise)
            rows = [[dice.randint(0, 1) for _ in row] for row in state[0]]
            move = dice.choice(moves(promise, state))
            state = (tuple(tuple(row) for row in rows), state[1], state[2])
            at = dice.randrange(len(rows))
            place = dice.randrange(len(rows[at]))
            if rows[at][place] == 0:
                continue
            rows[at][place] -= 1
            if place + 1 < len(rows[at]) and dice.random() < 0.5:
                rows[at][place + 1] += 1
            better = (tuple(tuple(row) for row in rows), state[1], state[2])
            falls = [next_morning(promise, one, move, dealing) is None
                     for one in (state, better) for dealing in dealings(promise, one, move)]
            first = len(dealings(promise, state, move))
            if not all(falls[:first]):
                self.assertFalse(all(falls[first:]))


class Runs(unittest.TestCase):
    def test_lawful(self):
        dice = random.Random(142)
        ends = [0, 0]
        for _ in range(150):
            promise = random_promise(dice, 3)
            course = random_course(dice, promise, dice.randint(0, 10))
            state = start_state(promise)
            told = [state]
            dealer = []
            for move in course:
                if state is None:
                    dealer.append(None)
                    continue
                dealing = dice.choice(slow_dealings(promise, state, move)[-3:])
                dealer.append(dealing)
                state = slow_morning(promise, state, move, dealing)
                told.extend([] if state is None else [state])
            ends[state is None] += 1
            kept = (list(course), list(dealer))
            self.assertEqual(run_course(promise, course, dealer), told)
            self.assertEqual((course, dealer), kept)
        self.assertGreater(min(ends), 20)

    def test_unlawful(self):
        course = [((1, 0), ()), ((0, 1), ()), ((0, 0), ())]
        good = [(0, -1), (-1, 1), (-1, -1)]
        self.assertEqual(len(run_course(TWO, course, good)), 4)
        for at, value in ((0, (1, -1)), (1, None), (2, (0, 0)), (2, (True, -1))):
            with self.assertRaises(Refused):
                run_course(TWO, course, good[:at] + [value] + good[at + 1:])
        # The second day falls: what is dealt behind it is not looked at.
        self.assertEqual(len(run_course(TWO, course, [(0, -1), (-1, -1), None])), 2)
        with self.assertRaises(Refused):
            run_course(TWO, course, [(1, 1), (-1, -1), None])
        with self.assertRaises(Refused):
            run_course(TWO, course, [(0, -1), (1, -1), None])

    def test_malformed(self):
        course = [((1, 0), ()), ((0, 1), ())]
        good = [(0, -1), (-1, 1)]
        for days, dealer in ((course, good[:1]), (course, good + [(-1, -1)]), ([((4, 0), ()), ((0, 1), ())], good),
                             ([((2, 0), ()), ((2, 0), ())], good), ([None, None], good), (course, []),
                             ([((4, 0), ()), ((0, 1), ())], [None, None])):
            with self.assertRaises(Malformed):
                run_course(TWO, days, dealer)
        self.assertEqual(run_course(TWO, [], []), [start_state(TWO)])


if __name__ == "__main__":
    unittest.main()
