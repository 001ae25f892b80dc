"""Points 146 to 150: reached and lost states, made books and traps, closing and shutting."""

import random
import time
import unittest

from docketloom.books import closes, deal_by, made_book, made_trap, shuts, spring
from docketloom.bounds import Promise, is_within, moves, start_state
from docketloom.courses import next_morning, run_course
from docketloom.errors import Malformed, TooMuch
from docketloom.games import can_keep, lost_states, reached
from odd import ODD, same
from promising import random_course, random_promise, slow_dealings, slow_graph, slow_ranks

KEPT = Promise(2, [((0, 1), 1, 1, 1), ((1,), 1, 1, 2)], (1, 3))
LOST = Promise(2, [((0,), 1, 2, 2), ((0, 1), 1, 1, 1)], (1, 2))
ALL = (0, 1, 2, 3)


def some_promises(seed, many, most):
    """Drawn promises whose states are few, with their graphs."""
    dice = random.Random(seed)
    found = []
    while len(found) < many:
        promise = random_promise(dice)
        graph = slow_graph(promise, most)
        if graph is not None:
            found.append((promise, graph))
    return found


class Games(unittest.TestCase):
    @classmethod
    def setUpClass(cls):
        cls.drawn = some_promises(150, 130, 90)

    def test_reached_and_lost(self):
        kept = 0
        ranks = {}
        for promise, graph in self.drawn:
            self.assertTrue(same(reached(promise), sorted(graph)))
            lost = slow_ranks(graph)
            self.assertEqual(lost_states(promise), lost)
            self.assertIs(can_keep(promise), start_state(promise) not in lost)
            kept += start_state(promise) not in lost
            ranks.update((rank, True) for rank in lost.values())
        self.assertGreater(kept, 20)
        self.assertLess(kept, 110)
        self.assertGreater(len(ranks), 4)

    def test_made_ones(self):
        for promise, graph in self.drawn:
            lost = slow_ranks(graph)
            book, trap = made_book(promise), made_trap(promise)
            if start_state(promise) in lost:
                self.assertIsNone(book)
                self.assertEqual(trap, sorted((state, self.shown(graph, lost, state), rank)
                                              for state, rank in lost.items()))
                self.assertIs(shuts(promise, trap), True)
                self.assertIs(closes(promise, trap), False)
            else:
                self.assertIsNone(trap)
                self.assertEqual(book, self.slow_book(graph, lost, start_state(promise)))
                self.assertIs(closes(promise, book), True)
                self.assertIs(shuts(promise, book), False)

    def shown(self, graph, lost, state):
        """The least move of point 148 for the rank of a lost state."""
        return min(move for move, row in graph[state].items()
                   if all(behind is None or lost.get(behind, 10 ** 9) < lost[state] for behind in row.values()))

    def slow_book(self, graph, lost, start):
        found = {}
        left = [start]
        while left:
            state = left.pop()
            if state in found:
                continue
            found[state] = []
            for move in sorted(graph[state]):
                dealing = min(dealing for dealing, behind in graph[state][move].items()
                              if behind is not None and behind not in lost)
                found[state].append((move, dealing))
                left.append(graph[state][move][dealing])
        return sorted(found.items())

    def test_less_waiting_is_no_worse(self):
        # Point 146, for all pairs of states with the same pasts of which one waits for less.
        for promise, graph in self.drawn[:60]:
            lost = slow_ranks(graph)
            for state in list(graph)[:40]:
                for other in list(graph)[:40]:
                    if state[1:] == other[1:] and all(
                            sum(row[:at]) <= sum(more[:at]) for row, more in zip(state[0], other[0])
                            for at in range(1, len(row) + 1)):
                        self.assertGreaterEqual(lost.get(state, 10 ** 9), lost.get(other, 10 ** 9))

    def test_document_words(self):
        self.assertIs(can_keep(KEPT), True)
        self.assertIs(can_keep(LOST), False)
        # One judge, one cause a day, and an absence: a cause falls on the day of the absence.
        promise = Promise(1, [((0,), 0, 1, 1)], (1, 2))
        self.assertEqual(lost_states(promise), {(((),), ((),), (0,)): 0, (((),), ((),), (1,)): 1})
        self.assertEqual(made_trap(promise), [((((),), ((),), (0,)), ((1,), (0,)), 0),
                                              ((((),), ((),), (1,)), ((0,), ()), 1)])


class TooMany(unittest.TestCase):
    def too_much(self, promise):
        for ask in (reached, lost_states, can_keep, made_book, made_trap):
            with self.assertRaises(TooMuch):
                ask(promise)

    def test_greatest_numbers(self):
        first = time.perf_counter()
        self.too_much(Promise(4, [(ALL, 8, 8, 6)] * 4, (8, 6)))
        self.too_much(Promise(4, [(ALL, 8, 8, 6)] * 3, (0, 6)))
        self.too_much(Promise(4, [((0,), 8, 8, 1)] * 2, (8, 6)))
        self.assertLess(time.perf_counter() - first, 10)

    def test_many_moves(self):
        # 9 * 9 * 7 * 7 is 3969, and 9 * 9 * 8 * 7 is 4536 moves; all of them lead back to the start, or fall.
        rows = [(ALL, 0, 8, 1), (ALL, 0, 8, 1), (ALL, 0, 6, 1), (ALL, 0, 6, 1)]
        promise = Promise(4, rows, (0, 1))
        self.assertEqual(reached(promise), [start_state(promise)])
        self.assertEqual(lost_states(promise), {start_state(promise): 0})
        self.too_much(Promise(4, rows[:2] + [(ALL, 0, 7, 1), (ALL, 0, 6, 1)], (0, 1)))
        # 5 * 5 * 5 * 2 * 16 is 4000, just not too many.
        rows = [(ALL, 0, 4, 1), (ALL, 0, 4, 1), (ALL, 0, 4, 1), (ALL, 0, 1, 1)]
        promise = Promise(4, rows, (4, 1))
        self.assertEqual(len(moves(promise, start_state(promise))), 4000)
        self.assertEqual(reached(promise), [start_state(promise)])
        self.assertIs(can_keep(promise), False)
        # One absent judge less makes 3750, another kind that is filed 4050.
        self.assertEqual(len(reached(Promise(4, rows, (3, 1)))), 1)
        rows = [(ALL, 0, 8, 1), (ALL, 0, 8, 1), (ALL, 0, 4, 1)]
        self.too_much(Promise(4, rows, (3, 1)))
        # 9 * 8 * 8 * 7 is 4032.
        self.too_much(Promise(4, [(ALL, 0, count, 1) for count in (8, 7, 7, 6)], (0, 1)))

    def test_more_due_than_judges(self):
        for judges in (1, 2, 3, 4):
            rights = tuple(range(judges))
            for count in range(1, 9):
                for term in (0, 1):
                    promise = Promise(judges, [(rights, term, count, 1)], (0, 1))
                    self.assertIs(can_keep(promise), count <= judges)
                    self.assertEqual(len(reached(promise)), 1 if term == 0 else count + 1)
                self.assertIs(can_keep(Promise(judges, [(rights, 1, count, 2)], (0, 1))), count <= 2 * judges)

    def test_many_states(self):
        # Where no judge may hear them, causes of a term of one day wait: 9 * 9 * 8 * 6 is 3888 states.
        rows = [((0,), 1, 8, 1), ((0,), 1, 8, 1), ((0,), 1, 7, 1), ((0,), 1, 5, 1)]
        self.assertEqual(len(reached(Promise(1, rows, (0, 1)))), 3888)
        self.too_much(Promise(1, rows[:3] + [((0,), 1, 6, 1)], (0, 1)))
        # 5 * 5 * 5 * 8 is 1000, and there are 4 pasts of the absences: just 4000 states.
        rows = [((0,), 1, 4, 1), ((0,), 1, 4, 1), ((0,), 1, 4, 1), ((0,), 1, 7, 1)]
        promise = Promise(1, rows, (1, 4))
        found = reached(promise)
        self.assertEqual(len(found), 4000)
        self.assertEqual(found, sorted(found))
        self.assertIs(can_keep(promise), False)
        self.too_much(Promise(1, rows[:3] + [((0,), 1, 8, 1)], (1, 4)))
        self.too_much(Promise(1, rows, (1, 5)))


class Closing(unittest.TestCase):
    def changed_books(self, book):
        """The book with one thing changed, by which it is none that closes any more, or no book at all."""
        for at, (state, replies) in enumerate(book):
            yield book[:at] + book[at + 1:]
            yield book[:at] + [(state, replies)] + book[at:]
            yield book[:at] + [[state, replies]] + book[at + 1:]
            yield book[:at] + [(state, tuple(replies))] + book[at + 1:]
            yield book[:at] + [(state, replies[:-1])] + book[at + 1:]
            yield book[:at] + [(state, replies + [replies[-1]])] + book[at + 1:]
            yield book[:at] + [(state, replies[::-1])] + book[at + 1:]
            yield book[:at] + [(state, None)] + book[at + 1:]
            yield book[:at] + [(state, replies, ())] + book[at + 1:]
            for place, (move, dealing) in enumerate(replies):
                for other in ([move, dealing], (move,), (move, dealing, 0), (move, list(dealing)), (move, dealing[1:]),
                              (move, (9, 9)), (move, None), (replies[place - 1][0], dealing), (None, dealing),
                              (move, tuple(map(float, dealing)))):
                    yield book[:at] + [(state, replies[:place] + [other] + replies[place + 1:])] + book[at + 1:]
        yield book[::-1]
        yield tuple(book)

    def test_books(self):
        book = made_book(KEPT)
        self.assertGreater(len(book), 3)
        many = 0
        for other in self.changed_books(book):
            many += 1
            self.assertIs(closes(KEPT, other), False, other)
        self.assertGreater(many, 200)
        # States that are not needed may stand in it, also those that have no moves.
        state = (((0,), (0,)), ((), (5,)), (0, 0))
        self.assertIs(closes(KEPT, sorted(book + [(state, [])])), True)
        self.assertIs(closes(KEPT, sorted(book + [(state, [(((0, 0), ()), (-1, -1))])])), False)

    def test_other_dealings(self):
        for promise in (KEPT, Promise(2, [((0, 1), 2, 1, 2)], (1, 2))):
            book = made_book(promise)
            known = {state: True for state, _ in book}
            others = 0
            for at, (state, replies) in enumerate(book):
                for place, (move, dealing) in enumerate(replies):
                    for other in slow_dealings(promise, state, move):
                        told = book[:at] + [(state, replies[:place] + [(move, other)] + replies[place + 1:])] + book[at + 1:]
                        behind = next_morning(promise, state, move, other)
                        self.assertIs(closes(promise, told), behind is not None and behind in known)
                        others += other != dealing
            self.assertGreater(others, 20)

    def test_dealings_that_are_not_lawful(self):
        for promise in (KEPT, Promise(2, [((0, 1), 2, 1, 2)], (1, 2))):
            book = made_book(promise)
            every = [(one, other) for one in range(-2, 3) for other in range(-2, 3)]
            tried = 0
            for at, (state, replies) in enumerate(book):
                for place, (move, _) in enumerate(replies):
                    lawful = slow_dealings(promise, state, move)
                    for dealing in [row for row in every if row not in lawful]:
                        told = book[:at] + [(state, replies[:place] + [(move, dealing)] + replies[place + 1:])] + book[at + 1:]
                        self.assertIs(closes(promise, told), False)
                        tried += 1
            self.assertGreater(tried, 300)

    def test_any_kind(self):
        for value in ODD:
            self.assertIs(closes(KEPT, value), False)
            self.assertIs(closes(KEPT, [value]), False)
            self.assertIs(shuts(LOST, value), False)
            self.assertIs(shuts(LOST, [value]), False)
            with self.assertRaises(Malformed):
                deal_by(KEPT, value, [])
            with self.assertRaises(Malformed):
                spring(LOST, value, [])
        # True is no number of a move, a dealing or a rank.
        promise = Promise(1, [((0,), 1, 1, 2)], (0, 1))
        book = made_book(promise)
        self.assertIs(closes(promise, book), True)
        for at, (state, replies) in enumerate(book):
            for place, (move, dealing) in enumerate(replies):
                for other in (((tuple(map(bool, move[0])), move[1]), dealing), ((move[0], list(move[1])), dealing),
                              (move, tuple(map(bool, dealing)))):
                    told = book[:at] + [(state, replies[:place] + [other] + replies[place + 1:])] + book[at + 1:]
                    self.assertIs(closes(promise, told), False)

    def test_traps(self):
        trap = made_trap(LOST)
        self.assertGreater(len(trap), 3)
        ranks = {state: rank for state, _, rank in trap}
        start = start_state(LOST)
        for at, (state, move, rank) in enumerate(trap):
            for other in ([state, move, rank], (state, move), (state, move, rank, 0), (state, move, -1), (state, None, rank),
                          (state, move, None), (state, move, float(rank)), (state, ((9, 9), ()), rank),
                          (state, list(move), rank), (None, move, rank)):
                self.assertIs(shuts(LOST, trap[:at] + [other] + trap[at + 1:]), False)
            self.assertIs(shuts(LOST, trap[:at] + [(state, move, rank)] + trap[at:]), False)
            if rank in (0, 1):
                self.assertIs(shuts(LOST, trap[:at] + [(state, move, bool(rank))] + trap[at + 1:]), False)
            for other in range(rank + 3):
                told = trap[:at] + [(state, move, other)] + trap[at + 1:]
                self.assertIs(shuts(LOST, told), self.slow_shuts(LOST, told))
            for other in moves(LOST, state):
                told = trap[:at] + [(state, other, rank)] + trap[at + 1:]
                self.assertIs(shuts(LOST, told), self.slow_shuts(LOST, told))
            told = trap[:at] + trap[at + 1:]
            self.assertIs(shuts(LOST, told), state != start and self.slow_shuts(LOST, told))
        self.assertIs(shuts(LOST, trap[::-1]), False)
        self.assertIs(shuts(LOST, tuple(trap)), False)
        self.assertIs(shuts(LOST, [(state, move, rank + 7) for state, move, rank in trap]), True)
        self.assertIn(0, ranks.values())

    def slow_shuts(self, promise, trap):
        ranks = {state: rank for state, _, rank in trap}
        for state, move, rank in trap:
            for dealing in slow_dealings(promise, state, move):
                behind = next_morning(promise, state, move, dealing)
                if behind is not None and not ranks.get(behind, rank) < rank:
                    return False
        return True

    def test_they_do_not_need_the_states(self):
        # Six days of seven full ones: far more than 4000 states, but a short trap shuts.
        promise = Promise(1, [((0,), 0, 2, 6), ((0,), 8, 1, 6), ((0,), 8, 1, 6), ((0,), 8, 1, 6)], (0, 6))
        with self.assertRaises(TooMuch):
            made_trap(promise)
        trap = [(start_state(promise), ((2, 0, 0, 0), ()), 0)]
        self.assertIs(shuts(promise, trap), True)
        self.assertIs(closes(promise, trap), False)
        self.assertEqual(spring(promise, trap, []), [((2, 0, 0, 0), ())])


class Playing(unittest.TestCase):
    def test_no_cause_falls_by_a_book(self):
        dice = random.Random(149)
        for promise, graph in some_promises(1490, 60, 60):
            book = made_book(promise)
            if book is None:
                continue
            for days in (0, 1, 7, 40):
                course = random_course(dice, promise, days)
                dealer = deal_by(promise, book, course)
                self.assertEqual(len(dealer), days)
                self.assertEqual(len(run_course(promise, course, dealer)), days + 1)
                state = start_state(promise)
                pages = {told: dict(replies) for told, replies in book}
                for move, dealing in zip(course, dealer):
                    self.assertEqual(dealing, pages[state][move])
                    state = next_morning(promise, state, move, dealing)

    def test_courses_beyond_the_promise(self):
        book = made_book(KEPT)
        for course in ([((2, 0), ())], [None], [((0, 1), ()), ((0, 1), ())], [((0, 0), ())] * 401):
            with self.assertRaises(Malformed):
                deal_by(KEPT, book, course)
        self.assertEqual(len(deal_by(KEPT, book, [((0, 0), ())] * 400)), 400)
        with self.assertRaises(Malformed):
            deal_by(KEPT, book[1:], [])
        self.assertEqual(deal_by(KEPT, book, []), [])

    def test_springing(self):
        dice = random.Random(148)
        lengths = {}
        for promise, graph in some_promises(1480, 60, 60):
            trap = made_trap(promise)
            if trap is None:
                continue
            told = {state: (move, rank) for state, move, rank in trap}
            for choices in ([], [0] * 30, [-1] * 30, [10 ** 30], [dice.randint(-9, 9) for _ in range(dice.randint(1, 30))]):
                kept = list(choices)
                course = spring(promise, trap, choices)
                self.assertEqual(choices, kept)
                self.assertIs(is_within(promise, course), True)
                self.assertLessEqual(len(course), told[start_state(promise)][1] + 1)
                state = start_state(promise)
                for day, move in enumerate(course):
                    self.assertEqual(move, told[state][0])
                    lawful = slow_dealings(promise, state, move)
                    choice = choices[day] if day < len(choices) else 0
                    state = next_morning(promise, state, move, lawful[choice % len(lawful)])
                    self.assertIs(state is None, day == len(course) - 1)
                lengths[len(course)] = True
        self.assertGreater(len(lengths), 2)

    def test_no_trap(self):
        for trap in (made_book(KEPT), made_trap(LOST)[1:], []):
            with self.assertRaises(Malformed):
                spring(LOST, trap, [])


if __name__ == "__main__":
    unittest.main()
