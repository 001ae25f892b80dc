"""One kind of a promise by itself: its waiting causes and its past, on all ways on which its days can go."""

from docketloom.courses import behind_hearing, later

# The places of all lanes together are one number, and so are the heard causes of all kinds.
PLACE_BITS = 20
HEARD_BITS = 3


class Lane:
    """The places of one kind: pairs of its waiting causes and its past, numbered from 0 (the start) as they are met."""

    def __init__(self, at, hearers, term, bound):
        self.hearers = hearers
        self.term = term
        self._most, self.window = bound
        self._place_bits = PLACE_BITS * at
        self._heard_bits = HEARD_BITS * at
        self.met = []
        self._parts = {}
        self._step_parts = {}
        self._ways = {}
        self._numbers_filed = {}
        self.part((0,) * term, (0,) * (self.window - 1))

    def part(self, waiting, past):
        """The part that a place has in the number of a state."""
        place = (waiting, past)
        if place not in self._parts:
            self._parts[place] = len(self.met) << self._place_bits
            self.met.append(place)
        return self._parts[place]

    def room(self, place):
        """The most causes that can be filed."""
        return self._most - sum(self.met[place][1])

    def must_hear(self, place, filed):
        """How many causes have to be heard, lest the day falls."""
        return filed if self.term == 0 else self.met[place][0][0]

    def can_be_heard(self, place, filed):
        """How many causes can be heard, if all hearers are there."""
        return min(self.hearers, sum(self.met[place][0]) + filed)

    def numbers_filed(self, place):
        """The triples (filed, due, can be heard) of the numbers that can be filed and need be looked at."""
        if place not in self._numbers_filed:
            most = self.room(place)
            # Where no past tells later how many were filed, the most are the worst.
            least = most if self.window == 1 else 0
            self._numbers_filed[place] = [(filed, self.must_hear(place, filed), self.can_be_heard(place, filed))
                                    for filed in range(least, most + 1)]
        return self._numbers_filed[place]

    def step(self, place, filed, heard):
        """The part of the next place, when so many are filed and heard: not fewer than are due, not more than wait."""
        key = (place, filed, heard)
        if key not in self._step_parts:
            waiting, past = self.met[place]
            self._step_parts[key] = self.part(behind_hearing(waiting + (filed,), heard)[1:], later(past, filed))
        return self._step_parts[key]

    def ways(self, place):
        """The pairs (part of a next place, the fewest heard causes by which it is reached, packed)."""
        if place not in self._ways:
            found = {}
            for filed in range(self.room(place) + 1):
                for heard in range(self.must_hear(place, filed), self.can_be_heard(place, filed) + 1):
                    behind = self.step(place, filed, heard)
                    found[behind] = min(heard, found.get(behind, heard))
            self._ways[place] = [(behind, heard << self._heard_bits) for behind, heard in found.items()]
        return self._ways[place]
