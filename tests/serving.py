"""A slow second reckoning of the service of papers, by the words of the document alone."""

import itertools

from docketloom.calendars import kind_of
from docketloom.days import LAST_DAY, weekday

NAMES = ("ann", "bob", "cid", "dan", "eve")
DEEDS = ("back", "door", "hand", "post", "try")


def open_behind(calendar, day, number):
    """The n-th open day behind a day; the first one from it on for n = 0; None behind the last day."""
    left = max(1, number)
    day = day if number == 0 else day + 1
    while day <= LAST_DAY:
        if kind_of(calendar, day) == "open":
            left -= 1
            if left == 0:
                return day
        day += 1
    return None


def all_chains(powers, party, day, longest):
    """All chains from the party on the day: a dict from takers to lists of chains, ascending."""
    found = {party: [()]}
    for many in range(1, longest + 1):
        for chain in itertools.permutations(range(len(powers)), many):
            rows = [powers[number] for number in chain]
            if not all(first <= day and (behind is None or day < behind) for _, _, first, behind, _ in rows):
                continue
            if not all(row[4] for row in rows[:-1]):
                continue
            people = [party] + [row[1] for row in rows]
            if [row[0] for row in rows] == people[:-1] and len(set(people)) == len(people):
                found.setdefault(people[-1], []).append(chain)
    return {taker: sorted(chains) for taker, chains in found.items()}


def good_tries(manner, party, events, number):
    day = events[number][0]
    return [at for at, (tried, deed, whom) in enumerate(events)
            if deed == "try" and whom == party and tried < day and day - tried <= manner[3]]


def good_sets(manner, party, events, number):
    """All ascending tuples of as many good tries as there have to be, no two on the same weekday."""
    return [row for row in itertools.combinations(good_tries(manner, party, events, number), manner[2])
            if len({weekday(events[at][0]) for at in row}) == len(row)]


def counts(calendar, manner, powers, party, events, number):
    day, deed, whom = events[number]
    chains = all_chains(powers, party, day, manner[4])
    if deed == "hand" and whom in chains:
        return open_behind(calendar, day, 0)
    if deed == "post" and whom in chains:
        last = open_behind(calendar, day, manner[0])
        if last is not None and any(day <= other <= last for other, word, name in events if (word, name) == ("back", whom)):
            return None
        return last
    if deed == "door" and whom == party and good_sets(manner, party, events, number):
        return open_behind(calendar, day, manner[1])
    return None


def served(calendar, manner, powers, party, events):
    days = [counts(calendar, manner, powers, party, events, number) for number in range(len(events))]
    return min((day for day in days if day is not None), default=None)


def known(calendar, manner, powers, party, events, day):
    found = served(calendar, manner, powers, party, tuple(event for event in events if event[0] <= day))
    return found if found is not None and found <= day else None


def all_proofs(calendar, manner, powers, party, events):
    """All proofs that show service, on whatever day, ascending."""
    found = []
    for number, (told, deed, whom) in enumerate(events):
        day = counts(calendar, manner, powers, party, events, number)
        if day is None:
            continue
        if deed == "door":
            found.extend((day, number, (), row) for row in good_sets(manner, party, events, number))
        else:
            found.extend((day, number, chain, ()) for chain in all_chains(powers, party, told, manner[4])[whom])
    return sorted(found)


def random_powers(dice, most, first=0, span=30, names=NAMES):
    rows = []
    for _ in range(dice.randint(0, most)):
        giver, taker = dice.sample(names, 2)
        since = first + dice.randint(0, span)
        rows.append((giver, taker, since, dice.choice((None, None, since + dice.randint(1, span))), dice.random() < 0.7))
    return tuple(rows)


def random_events(dice, most, first=0, span=30, deeds=DEEDS, names=NAMES[:3]):
    rows = [(first + dice.randint(0, span), dice.choice(deeds), dice.choice(names)) for _ in range(dice.randint(0, most))]
    # Those of a day stand in any order.
    dice.shuffle(rows)
    return tuple(sorted(rows, key=lambda row: row[0]))


def random_manner(dice):
    return (dice.choice((1, 2, 3, 5)), dice.choice((0, 0, 1, 2)), dice.choice((0, 1, 2, 3, 4)), dice.choice((1, 4, 9, 30)),
            dice.choice((0, 1, 2, 3, 4)))


def random_calendar(dice, first=0):
    singles = {first + dice.randint(0, 40): dice.choice(("open", "shut")) for _ in range(3)}
    since = first + dice.randint(0, 40)
    return (tuple(sorted(dice.sample(range(7), dice.choice((0, 2, 4))))), (), tuple(sorted(singles.items())),
            dice.choice(((), ((since, since + dice.randint(1, 9)),))))
