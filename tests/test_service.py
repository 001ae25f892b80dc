"""Points 175 to 183: manners, powers, chains, events, service, and proofs."""

import random
import unittest

from docketloom.errors import NotThere, OutOfRange
from docketloom.proofs import made_proof, shows
from docketloom.service import (agents, all_served, counts_on, is_chain, is_events, is_manner, is_powers, known_on,
                                least_chain, served_on, unserved)
from odd import ODD, is_plain, mutants, same
from serving import (NAMES, all_chains, all_proofs, counts, known, random_calendar, random_events, random_manner,
                     random_powers, served)

# The day 2 is a Monday.
PLAIN = ((5, 6), (), (), ())
EVERY = ((), (), (), ())
MANNER = (3, 2, 2, 10, 2)
POWER = ("ann", "bob", 5, 9, True)


class Values(unittest.TestCase):
    def test_manners(self):
        for value in (MANNER, (1, 0, 0, 1, 0), (60, 60, 4, 60, 4)):
            self.assertIs(is_manner(value), True)
        for value in ((0, 2, 2, 10, 2), (61, 2, 2, 10, 2), (3, -1, 2, 10, 2), (3, 61, 2, 10, 2), (3, 2, -1, 10, 2),
                      (3, 2, 5, 10, 2), (3, 2, 2, 0, 2), (3, 2, 2, 61, 2), (3, 2, 2, 10, -1), (3, 2, 2, 10, 5), MANNER[:4],
                      MANNER + (0,), list(MANNER), (True, 2, 2, 10, 2), (3, False, 2, 10, 2), (3, 2, True, 10, 2),
                      (3, 2, 2, True, 2), (3, 2, 2, 10, False), (3.0, 2, 2, 10, 2)):
            self.assertIs(is_manner(value), False, value)

    def test_powers(self):
        for value in ((), (POWER,), (POWER, POWER), (POWER,) * 20, (("ann", "bob", 0, None, False),),
                      (("b", "a", 999999, 1000000, True),), (("b", "a", 1000000, None, True),)):
            self.assertIs(is_powers(value), True)
        for value in ((POWER,) * 21, [POWER], (list(POWER),), (POWER[:4],), (POWER + (0,),), (("ann", "ann", 5, 9, True),),
                      (("", "bob", 5, 9, True),), (("ann", "Bob", 5, 9, True),), (("ann", "bob", -1, 9, True),),
                      (("ann", "bob", 5, 5, True),), (("ann", "bob", 5, 4, True),), (("ann", "bob", 5, 1000001, True),),
                      (("ann", "bob", 5, 9, 1),), (("ann", "bob", 5, 9, 0),), (("ann", "bob", 5, 9, None),),
                      (("ann", "bob", True, 9, True),), (("ann", "bob", 0, True, True),), (("ann", "bob", None, 9, True),)):
            self.assertIs(is_powers(value), False, value)

    def test_events(self):
        many = tuple((day, "try", "ann") for day in range(60))
        for value in ((), many, ((5, "try", "b"), (5, "hand", "a"), (5, "try", "b")), ((0, "back", "a"), (1000000, "door", "z"))):
            self.assertIs(is_events(value), True)
        for value in (many + ((70, "try", "ann"),), list(many), ((6, "try", "a"), (5, "try", "a")), ((5, "lost", "a"),),
                      ((5, "try", ""),), ((-1, "try", "a"),), ((1000001, "try", "a"),), ((True, "try", "a"),), ([5, "try", "a"],),
                      ((5, "try"),), ((5, "try", "a", 0),), ((5, None, "a"),), ((5, ("try",), "a"),)):
            self.assertIs(is_events(value), False, value)

    def test_any_kind(self):
        for ask, good in ((is_manner, MANNER), (is_events, ((5, "try", "b"), (7, "hand", "a")))):
            for value in mutants(good):
                answer = ask(value)
                self.assertIn(answer, (True, False))
                if not is_plain(value):
                    self.assertIs(answer, False, value)
        for value in mutants((POWER, ("bob", "cid", 1, None, False))):
            self.assertIn(is_powers(value), (True, False))
        for value in ODD:
            self.assertIs(is_powers(value), type(value) is tuple and value == ())
            self.assertIs(is_powers((value,)), False)
            self.assertIs(is_manner(value), False)


class Chains(unittest.TestCase):
    def test_against_all_rows_of_powers(self):
        dice = random.Random(176)
        longer = 0
        for _ in range(300):
            powers = random_powers(dice, 8, span=9, names=dice.choice((NAMES, NAMES[:3])))
            day = dice.randint(0, 20)
            longest = dice.randint(0, 4)
            party = dice.choice(NAMES[:3])
            chains = all_chains(powers, party, day, longest)
            self.assertEqual(agents(powers, party, day, longest), sorted(chains))
            for taker in NAMES + ("zoe",):
                found = least_chain(powers, party, taker, day, longest)
                told = chains.get(taker, [])
                self.assertTrue(same(found, told[0] if told else None))
                longer += len(told) > 0 and len(told[0]) > min(map(len, told))
                for chain in told:
                    self.assertIs(is_chain(powers, party, taker, day, longest, chain), True)
                for _ in range(6):
                    chain = tuple(dice.randint(-1, len(powers)) for _ in range(dice.randint(0, 5)))
                    self.assertIs(is_chain(powers, party, taker, day, longest, chain), chain in told)
        self.assertGreater(longer, 2)

    def test_the_least_chain_is_longer(self):
        powers = (("ann", "bob", 0, None, True), ("bob", "cid", 0, None, False), ("ann", "cid", 0, None, False))
        self.assertEqual(least_chain(powers, "ann", "cid", 3, 2), (0, 1))
        self.assertEqual(least_chain(powers, "ann", "cid", 3, 1), (2,))
        self.assertIsNone(least_chain(powers, "ann", "cid", 3, 0))
        self.assertEqual(agents(powers, "ann", 3, 0), ["ann"])

    def test_days_of_powers(self):
        powers = (POWER, ("bob", "cid", 7, None, True))
        for day in range(4, 11):
            told = ["ann"] + (["bob"] if 5 <= day < 9 else []) + (["cid"] if 7 <= day < 9 else [])
            self.assertEqual(agents(powers, "ann", day, 4), told)
        self.assertEqual(agents(powers, "bob", 1000000, 4), ["bob", "cid"])

    def test_not_to_be_handed_on(self):
        powers = (("ann", "bob", 0, None, False), ("bob", "cid", 0, None, True))
        self.assertEqual(agents(powers, "ann", 3, 4), ["ann", "bob"])
        self.assertIs(is_chain(powers, "ann", "cid", 3, 4, (0, 1)), False)
        self.assertIs(is_chain(powers, "ann", "bob", 3, 4, (0,)), True)

    def test_the_longest(self):
        names = "abcdef"
        powers = tuple((names[at], names[at + 1], 0, None, True) for at in range(5))
        for longest in range(5):
            self.assertEqual(agents(powers, "a", 3, longest), list(names[:longest + 1]))
            self.assertIs(is_chain(powers, "a", names[longest], 3, longest, tuple(range(longest))), True)
            self.assertIs(is_chain(powers, "a", names[longest], 3, longest - 1, tuple(range(longest))), False)

    def test_people_are_different(self):
        powers = (("ann", "bob", 0, None, True), ("bob", "ann", 0, None, True), ("bob", "cid", 0, None, True))
        self.assertIs(is_chain(powers, "ann", "ann", 3, 4, ()), True)
        self.assertIs(is_chain(powers, "ann", "ann", 3, 4, (0, 1)), False)
        self.assertIs(is_chain(powers, "ann", "bob", 3, 4, (0, 1, 0)), False)
        self.assertIs(is_chain(powers, "ann", "bob", 3, 4, ()), False)

    def test_any_kind(self):
        powers = (POWER, ("bob", "cid", 0, None, True))
        for value in ODD + [[0, 1], (False, True), (0, 1.0), (0, 2), (-2, 1), ("0", 1)]:
            self.assertIs(is_chain(powers, "ann", "cid", 6, 2, value), type(value) is tuple and value == (0, 1) and same(value, (0, 1)))

    def test_days(self):
        for day in (-1, 1000001, True, None):
            with self.assertRaises(OutOfRange):
                is_chain((), "ann", "ann", day, 2, ())
            with self.assertRaises(OutOfRange):
                least_chain((), "ann", "ann", day, 2)
            with self.assertRaises(OutOfRange):
                agents((), "ann", day, 2)
            with self.assertRaises(OutOfRange):
                known_on(PLAIN, MANNER, (), "ann", (), day)
            with self.assertRaises(OutOfRange):
                unserved(PLAIN, MANNER, (), ["ann"], (), day)


class Counting(unittest.TestCase):
    def test_against_words(self):
        dice = random.Random(178)
        found = {}
        for _ in range(250):
            first = dice.choice((0, 0, 100, 999960))
            calendar, manner = random_calendar(dice, first), random_manner(dice)
            powers = random_powers(dice, 4, first)
            events = random_events(dice, 8, first)
            for party in NAMES[:2]:
                for number, event in enumerate(events):
                    told = counts(calendar, manner, powers, party, events, number)
                    self.assertTrue(same(counts_on(calendar, manner, powers, party, events, number), told))
                    found.setdefault((event[1], told is None), True)
                day = served(calendar, manner, powers, party, events)
                self.assertTrue(same(served_on(calendar, manner, powers, party, events), day))
                for k in range(first, first + 40, 3):
                    told = known(calendar, manner, powers, party, events, k)
                    self.assertTrue(same(known_on(calendar, manner, powers, party, events, k), told))
        self.assertEqual(sorted(found), [("back", True), ("door", False), ("door", True), ("hand", False), ("hand", True),
                                         ("post", False), ("post", True), ("try", True)])

    def test_hand(self):
        # 4 is a Wednesday, 6 a Friday, 7 a Saturday.
        for day, told in ((4, 4), (6, 6), (7, 9), (8, 9), (9, 9)):
            self.assertEqual(counts_on(PLAIN, MANNER, (), "ann", ((day, "hand", "ann"),), 0), told)
        self.assertIsNone(counts_on(PLAIN, MANNER, (), "ann", ((4, "hand", "bob"),), 0))
        for day in range(3, 12):
            told = day if 5 <= day < 9 else None
            self.assertEqual(counts_on(EVERY, MANNER, (POWER,), "ann", ((day, "hand", "bob"),), 0), told)

    def test_post(self):
        for post, told in ((1, 7), (2, 8), (60, 66)):
            self.assertEqual(counts_on(EVERY, (post, 2, 2, 10, 2), (), "ann", ((6, "post", "ann"),), 0), told)
        self.assertEqual(counts_on(PLAIN, MANNER, (), "ann", ((6, "post", "ann"),), 0), 11)
        # A paper that came back on one of the days from that of the event to the third open day behind it.
        for day in range(4, 14):
            events = tuple(sorted(((6, "post", "ann"), (day, "back", "ann"))))
            told = None if 6 <= day <= 11 else 11
            self.assertEqual(counts_on(PLAIN, MANNER, (), "ann", events, events.index((6, "post", "ann"))), told)
            events = tuple(sorted(((6, "post", "ann"), (day, "back", "bob"))))
            self.assertEqual(counts_on(PLAIN, MANNER, (), "ann", events, events.index((6, "post", "ann"))), 11)
        # On one day they stand in any order.
        for events in (((6, "back", "ann"), (6, "post", "ann")), ((6, "post", "ann"), (6, "back", "ann"))):
            self.assertIsNone(served_on(PLAIN, MANNER, (), "ann", events))

    def test_door(self):
        # Two tries, on different weekdays, at most ten days ahead of the door.
        door = (20, "door", "ann")
        for days, told in (((11, 12), 22), ((10, 19), 22), ((9, 19), None), ((9, 10, 19), 22), ((11, 18), None), ((19, 20), None),
                           ((11, 18, 19), 22), ((12,), None), ((12, 12), None)):
            events = tuple((day, "try", "ann") for day in days) + (door,)
            if days[-1] <= 20:
                self.assertEqual(counts_on(EVERY, MANNER, (), "ann", events, len(days)), told, days)
        for door_days, told in ((0, 20), (1, 23), (2, 24), (60, 104)):
            manner = (3, door_days, 1, 10, 2)
            # 20 is a Friday.
            events = ((19, "try", "ann"), door)
            self.assertEqual(counts_on(PLAIN, manner, (), "ann", events, 1), told)
        self.assertEqual(counts_on(EVERY, (3, 2, 0, 10, 2), (), "ann", (door,), 0), 22)
        # Neither the door of an agent nor tries of an agent.
        always = (("ann", "bob", 0, None, True),)
        self.assertIsNone(counts_on(EVERY, (3, 2, 0, 10, 2), always, "ann", ((20, "door", "bob"),), 0))
        self.assertIsNone(counts_on(EVERY, (3, 2, 1, 10, 2), always, "ann", ((19, "try", "bob"), door), 1))
        for many in range(5):
            events = tuple((day, "try", "ann") for day in range(15, 15 + many)) + (door,)
            for tries in range(5):
                told = 20 if tries <= many else None
                self.assertEqual(counts_on(EVERY, (3, 0, tries, 10, 2), (), "ann", events, many), told)

    def test_the_last_days(self):
        for day, told in ((999996, 999999), (999997, 1000000), (999998, None), (1000000, None)):
            self.assertEqual(counts_on(EVERY, MANNER, (), "ann", ((day, "post", "ann"),), 0), told)
        self.assertEqual(counts_on(EVERY, MANNER, (), "ann", ((1000000, "hand", "ann"),), 0), 1000000)
        shut = ((), (), ((1000000, "shut"),), ())
        self.assertIsNone(counts_on(shut, MANNER, (), "ann", ((1000000, "hand", "ann"),), 0))
        for door, told in ((0, 1000000), (1, None)):
            manner = (3, door, 0, 10, 2)
            self.assertEqual(counts_on(EVERY, manner, (), "ann", ((1000000, "door", "ann"),), 0), told)

    def test_not_there(self):
        for number in (1, -1, 60):
            with self.assertRaises(NotThere):
                counts_on(PLAIN, MANNER, (), "ann", ((4, "hand", "ann"),), number)
        with self.assertRaises(NotThere):
            counts_on(PLAIN, MANNER, (), "ann", (), 0)


class Serving(unittest.TestCase):
    def test_all(self):
        dice = random.Random(179)
        for _ in range(120):
            calendar, manner = random_calendar(dice), random_manner(dice)
            powers, events = random_powers(dice, 4), random_events(dice, 9)
            parties = [dice.choice(NAMES[:3]) for _ in range(dice.randint(1, 4))]
            days = [served(calendar, manner, powers, party, events) for party in parties]
            kept = list(parties)
            told = None if None in days else max(days)
            self.assertTrue(same(all_served(calendar, manner, powers, parties, events), told))
            for day in (0, 10, 20, 60):
                left = [party for party in parties if known(calendar, manner, powers, party, events, day) is None]
                self.assertEqual(unserved(calendar, manner, powers, parties, events, day), left)
            self.assertEqual(parties, kept)
        with self.assertRaises(OutOfRange):
            all_served(PLAIN, MANNER, (), [], ())
        self.assertEqual(unserved(PLAIN, MANNER, (), [], (), 5), [])
        self.assertEqual(unserved(PLAIN, MANNER, (), ["bob", "ann", "bob"], (), 5), ["bob", "ann", "bob"])

    def test_what_is_known_once_stays(self):
        dice = random.Random(180)
        times = 0
        for _ in range(150):
            calendar, manner = random_calendar(dice), random_manner(dice)
            powers, events = random_powers(dice, 3), random_events(dice, 8)
            day = served_on(calendar, manner, powers, "ann", events)
            found = {known_on(calendar, manner, powers, "ann", events, k) for k in range(0, 120)} - {None}
            self.assertLessEqual(len(found), 1)
            for k in range(0, 120, 7):
                told = known_on(calendar, manner, powers, "ann", events, k)
                if told is not None:
                    times += 1
                    self.assertEqual(known_on(calendar, manner, powers, "ann", events, k + 9), told)
                    self.assertEqual(told, day)
            if day is not None:
                self.assertEqual(known_on(calendar, manner, powers, "ann", events, day), day)
                if day > 0:
                    self.assertIsNone(known_on(calendar, manner, powers, "ann", events, day - 1))
        self.assertGreater(times, 100)

    def test_further_powers_and_events(self):
        dice = random.Random(182)
        for _ in range(150):
            calendar, manner = random_calendar(dice), random_manner(dice)
            powers, events = random_powers(dice, 4), random_events(dice, 8)
            day = served_on(calendar, manner, powers, "ann", events)
            more = random_powers(dice, 1)
            event = random_events(dice, 1, deeds=("door", "hand", "post", "try"))
            for others, told in ((powers + more, events), (powers, tuple(sorted(events + event)))):
                later = served_on(calendar, manner, others, "ann", told)
                if day is not None:
                    self.assertIsNotNone(later)
                    self.assertLessEqual(later, day)
            # Ahead of the end of a power, it is as if it did not end.
            for at, power in enumerate(powers):
                if power[3] is not None:
                    others = powers[:at] + (power[:3] + (None, power[4]),) + powers[at + 1:]
                    for k in range(power[3] - 5, power[3]):
                        self.assertEqual(known_on(calendar, manner, powers, "ann", events, max(0, k)),
                                         known_on(calendar, manner, others, "ann", events, max(0, k)))


class Proofs(unittest.TestCase):
    def test_against_all_proofs(self):
        dice = random.Random(181)
        made = 0
        for _ in range(300):
            calendar, manner = random_calendar(dice), random_manner(dice)
            powers = random_powers(dice, 5)
            deeds, names = ("door", "hand", "post", "try", "try", "try", "try"), ("ann", "ann", "ann", "bob")
            events = random_events(dice, 12, span=dice.choice((12, 30)), deeds=deeds, names=names)
            proofs = all_proofs(calendar, manner, powers, "ann", events)
            day = served(calendar, manner, powers, "ann", events)
            told = min((proof for proof in proofs if proof[0] == day), default=None)
            self.assertTrue(same(made_proof(calendar, manner, powers, "ann", events), told))
            made += told is not None and told[3] != ()
            for proof in proofs:
                self.assertIs(shows(calendar, manner, powers, "ann", events, proof), True)
            for proof in proofs[:3]:
                for value in mutants(proof, ()):
                    good = is_plain(value) and value in proofs
                    self.assertIs(shows(calendar, manner, powers, "ann", events, value), good, value)
                for other in proofs:
                    for value in ((proof[0], proof[1], other[2], proof[3]), (proof[0], proof[1], proof[2], other[3]),
                                  (proof[0], other[1], proof[2], proof[3])):
                        self.assertIs(shows(calendar, manner, powers, "ann", events, value), value in proofs)
        self.assertGreater(made, 10)

    def test_tries_by_weekdays(self):
        # The first try of each weekday: 10, 17 are one weekday, 11 another one.
        manner = (3, 0, 2, 30, 2)
        events = ((10, "try", "ann"), (17, "try", "ann"), (18, "try", "ann"), (19, "hand", "bob"), (20, "door", "ann"))
        self.assertEqual(made_proof(EVERY, manner, (), "ann", events), (20, 4, (), (0, 2)))
        for tries, told in (((0, 2), True), ((1, 2), True), ((0, 1), False), ((2, 0), False), ((0,), False), ((0, 2, 2), False),
                            ((0, 3), False), ([0, 2], False), ((False, 2), False), ((0, 2.0), False), ((), False)):
            self.assertIs(shows(EVERY, manner, (), "ann", events, (20, 4, (), tries)), told)

    def test_another_day(self):
        # A proof may show another day than the first one.
        events = ((5, "hand", "ann"), (6, "hand", "ann"))
        self.assertIs(shows(EVERY, MANNER, (), "ann", events, (6, 1, (), ())), True)
        self.assertIs(shows(EVERY, MANNER, (), "ann", events, (5, 1, (), ())), False)
        self.assertEqual(made_proof(EVERY, MANNER, (), "ann", events), (5, 0, (), ()))
        self.assertIsNone(made_proof(EVERY, MANNER, (), "bob", events))

    def test_any_kind(self):
        events = ((1, "hand", "bob"),)
        powers = (("ann", "bob", 0, None, True),)
        good = (1, 0, (0,), ())
        self.assertIs(shows(EVERY, MANNER, powers, "ann", events, good), True)
        for value in mutants(good):
            self.assertIs(shows(EVERY, MANNER, powers, "ann", events, value), same(value, good), value)


if __name__ == "__main__":
    unittest.main()
