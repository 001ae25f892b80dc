"""Slow second reckonings of promises: courses of single causes, and walks over all moves and lawful dealings."""

import itertools

from docketloom.bounds import Promise, moves, start_state


def random_promise(dice, judges=3, kinds=(1, 1, 2, 2, 3), terms=(0, 0, 1, 1, 2), counts=(1, 1, 2, 3), windows=(1, 2, 2, 3)):
    many = dice.randint(1, judges)
    rows = [(tuple(sorted(dice.sample(range(many), dice.randint(1, many)))), dice.choice(terms), dice.choice(counts),
             dice.choice(windows)) for _ in range(dice.choice(kinds))]
    return Promise(many, rows, (dice.choice((0, 1, 1, 2)), dice.choice((1, 2, 3))))


def one_bench(dice, judges=4, kinds=4, term=8, count=8, window=6):
    many = dice.randint(1, judges)
    rows = [(tuple(range(many)), dice.randint(0, term), dice.randint(1, count) if dice.random() < 0.4 else 1,
             dice.randint(1, window)) for _ in range(dice.randint(1, kinds))]
    return Promise(many, rows, (dice.randint(0, count), dice.randint(1, window)))


def random_course(dice, promise, days):
    """A course within the promise, mostly of full days."""
    course = []
    for _ in range(days):
        filed = []
        for at, (_, _, count, window) in enumerate(promise.kinds):
            behind = [day[0][at] for day in course[max(0, len(course) - window + 1):]]
            room = count - sum(behind)
            filed.append(room if dice.random() < 0.5 else dice.randint(0, room))
        count, window = promise.absences
        room = count - sum(len(day[1]) for day in course[max(0, len(course) - window + 1):])
        many = dice.randint(0, min(promise.judges, room))
        course.append((tuple(filed), tuple(sorted(dice.sample(range(promise.judges), many)))))
    return course


def all_days(promise, most):
    """All days with at most so many causes of each kind, as tuples are ordered."""
    sets = [absent for many in range(promise.judges + 1) for absent in itertools.combinations(range(promise.judges), many)]
    rows = itertools.product(range(most + 1), repeat=len(promise.kinds))
    return sorted((filed, absent) for filed in rows for absent in sets)


def within(promise, course):
    """Point 140, window by window."""
    for at, (_, _, count, window) in enumerate(promise.kinds):
        for first in range(-window, len(course)):
            if sum(course[day][0][at] for day in range(max(0, first), min(len(course), first + window))) > count:
                return False
    count, window = promise.absences
    return all(sum(len(course[day][1]) for day in range(max(0, first), min(len(course), first + window))) <= count
               for first in range(-window, len(course)))


def slow_rows(state, move):
    return tuple(row + (filed,) for row, filed in zip(state[0], move[0]))


def slow_dealings(promise, state, move):
    rows = slow_rows(state, move)
    found = []
    for dealing in itertools.product(range(-1, len(promise.kinds)), repeat=promise.judges):
        able = all(kind == -1 or (judge not in move[1] and judge in promise.kinds[kind][0])
                   for judge, kind in enumerate(dealing))
        if able and all(dealing.count(kind) <= sum(row) for kind, row in enumerate(rows)):
            found.append(dealing)
    return found


def slow_morning(promise, state, move, dealing):
    """The next morning, with each cause by itself."""
    waiting = []
    for kind, row in enumerate(slow_rows(state, move)):
        causes = sorted(left for left, many in enumerate(row) for _ in range(many))
        causes = causes[dealing.count(kind):]
        if 0 in causes:
            return None
        waiting.append(tuple(causes.count(left + 1) for left in range(promise.kinds[kind][1])))
    pasts = []
    for at, past in enumerate(state[1]):
        past = list(past) + [move[0][at]]
        pasts.append(tuple(past[len(past) - promise.kinds[at][3] + 1:]))
    past = list(state[2]) + [len(move[1])]
    return (tuple(waiting), tuple(pasts), tuple(past[len(past) - promise.absences[1] + 1:]))


def slow_graph(promise, most):
    """A dict of all states with, for each move, the dict from lawful dealings to next states; None if there are more."""
    start = start_state(promise)
    graph = {}
    left = [start]
    while left:
        state = left.pop()
        if state in graph:
            continue
        if len(graph) == most:
            return None
        graph[state] = {move: {dealing: slow_morning(promise, state, move, dealing)
                               for dealing in slow_dealings(promise, state, move)} for move in moves(promise, state)}
        left.extend(behind for row in graph[state].values() for behind in row.values() if behind is not None)
    return graph


def slow_ranks(graph):
    """The ranks of the lost states, round by round."""
    ranks = {}
    rank = 0
    while True:
        found = [state for state, rows in graph.items() if state not in ranks
                 and any(all(behind is None or behind in ranks for behind in row.values()) for row in rows.values())]
        if not found:
            return ranks
        ranks.update((state, rank) for state in found)
        rank += 1
