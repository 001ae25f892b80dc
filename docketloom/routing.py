"""Amounts that go through a network from where there is too much to where there is too little, on short roads."""

# The cost of a road counts ahead of the number of its steps. Taking roads of few steps among those of least cost bounds
# how many are taken, however great the amounts are.
COST = 1000


class Network:
    """Edges (from, to, room) between numbered places; each unit on an edge costs 1."""

    def __init__(self, surplus, edges):
        # What is still to go out of a place; below nought, what is still to come to it.
        self._surplus = list(surplus)
        self._edges = edges
        # How much goes over each edge.
        self.kept = [0] * len(edges)

    def _arcs(self):
        """All steps that can be gone, (from, to, cost, edge, room): along edges and, taking back, against them."""
        found = []
        for at, (start, end, room) in enumerate(self._edges):
            if self.kept[at] < room:
                found.append((start, end, 1, at, room - self.kept[at]))
            if self.kept[at] > 0:
                found.append((end, start, -1, at, self.kept[at]))
        return found

    def fill(self):
        """Sends all amounts on their roads."""
        while True:
            road = self._cheapest_road()
            if road is None:
                return
            start = road[0][0]
            end = road[-1][1]
            amount = min([self._surplus[start], -self._surplus[end]] + [room for _, _, _, _, room in road])
            for _, _, cost, at, _ in road:
                self.kept[at] += cost * amount
            self._surplus[start] -= amount
            self._surplus[end] += amount

    def _cheapest_road(self):
        """The arcs of a cheapest road from a place with too much to one with too little, or None."""
        arcs = self._arcs()
        told = [0 if surplus > 0 else None for surplus in self._surplus]
        came = [None] * len(told)
        is_changed = True
        while is_changed:
            is_changed = False
            for arc in arcs:
                start, end, cost, _, _ = arc
                if told[start] is not None:
                    price = told[start] + cost * COST + 1
                    if told[end] is None or price < told[end]:
                        told[end] = price
                        came[end] = arc
                        is_changed = True
        # What is missing somewhere can always come from somewhere: at first by the edges as they are, in full.
        ends = [(told[at], at) for at, surplus in enumerate(self._surplus) if surplus < 0]
        if len(ends) == 0:
            return None
        road = []
        at = min(ends)[1]
        while came[at] is not None:
            road.append(came[at])
            at = came[at][0]
        return road[::-1]

    def distances(self):
        """For each place, the cost of a cheapest road to it from any place; at most 0."""
        told = [0] * len(self._surplus)
        arcs = self._arcs()
        is_changed = True
        while is_changed:
            is_changed = False
            for start, end, cost, _, _ in arcs:
                if told[start] + cost < told[end]:
                    told[end] = told[start] + cost
                    is_changed = True
        return told
