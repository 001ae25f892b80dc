"""Slots given to hearings, one after the other, so that as many as can be are given in all."""

from docketloom.benches import SLOTS


class Seating:
    """Hearings as triples (judge, slots that it can use, length), and how many rooms each slot has."""

    def __init__(self, hearings, rooms):
        self._judges = [judge for judge, _, _ in hearings]
        # A slot without a room is of no use.
        self._able = [[slot for slot in slots if rooms[slot] > 0] for _, slots, _ in hearings]
        self._lengths = [length for _, _, length in hearings]
        self._rooms = rooms
        # The slots of each hearing; who has a judge in a slot; and who is in a slot.
        self.given = [{} for _ in hearings]
        self._held = {}
        self._inside = [{} for _ in range(SLOTS)]

    def fill(self):
        """Gives slots until no more can be given."""
        for at in range(len(self._judges)):
            while len(self.given[at]) < self._lengths[at] and self._give_more(at):
                pass

    def _give(self, at, slot):
        """Gives a slot to a hearing."""
        self.given[at][slot] = True
        self._held[(self._judges[at], slot)] = at
        self._inside[slot][at] = True

    def _take(self, at, slot):
        """Takes a slot from a hearing."""
        del self.given[at][slot]
        del self._held[(self._judges[at], slot)]
        del self._inside[slot][at]

    def _give_more(self, start):
        """Gives one slot more to a hearing, which others may have to give up for other ones; False if it cannot."""
        came = {start: None}
        left = [start]
        while len(left) > 0:
            at = left.pop(0)
            for slot in self._able[at]:
                if slot in self.given[at]:
                    continue
                others = self._in_the_way(at, slot)
                if len(others) == 0:
                    self._shift(came, at, slot)
                    return True
                for other in others:
                    if other not in came:
                        came[other] = (at, slot)
                        left.append(other)
        return False

    def _in_the_way(self, at, slot):
        """The hearings any one of which has to give up a slot so that a hearing can have it; none if it is free."""
        holder = self._held.get((self._judges[at], slot))
        if holder is not None:
            return [holder]
        return list(self._inside[slot]) if len(self._inside[slot]) >= self._rooms[slot] else []

    def _shift(self, came, at, slot):
        """Gives a free slot to a hearing, whose slot that was asked for goes to the one ahead of it, and so on."""
        while came[at] is not None:
            asking, asked = came[at]
            self._take(at, asked)
            self._give(at, slot)
            at = asking
            slot = asked
        self._give(at, slot)

    def cut(self):
        """The indexes of the hearings that could give up slots for some hearing that is short of them, with these."""
        left = [at for at, length in enumerate(self._lengths) if len(self.given[at]) < length]
        reached = {at: True for at in left}
        while len(left) > 0:
            at = left.pop()
            for slot in self._able[at]:
                if slot not in self.given[at]:
                    for other in self._in_the_way(at, slot):
                        if other not in reached:
                            reached[other] = True
                            left.append(other)
        return sorted(reached)
