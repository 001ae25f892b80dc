"""What an office keeps of one cause, and of the hearings of all causes."""


class Record:
    """A cause that some deed began."""

    def __init__(self, begun, number, parties, worth, judge):
        # The day on which it was begun by a deed, and the number of the entry.
        self.begun = begun
        self.number = number
        self.parties = [party for party, _ in parties]
        self.worth = worth
        self.judge_name = judge
        # The day on which the cause got heads, and these heads, the sides and the allowances.
        self.since = None
        self.heads = ()
        self.sides = ()
        self.allowances = ()
        # Pairs of a day and an expense, and the moves.
        self.spent = []
        self.made = []

    def has_heads(self, k):
        """True if the cause has got heads up to the day k."""
        return self.since is not None and self.since <= k

    def head_names(self):
        """The list of the names of the heads."""
        return [head for head, _, _ in self.heads]

    def expenses(self, k):
        """The list of the expenses up to the day k."""
        return [expense for day, expense in self.spent if day <= k]

    def moves(self, k):
        """The list of the moves up to the day k."""
        return [move for move in self.made if move[0] <= k]


class Told:
    """A hearing that was told for a day."""

    def __init__(self, since, hearing):
        self.since = since
        self.hearing = hearing
        # The day on which it was taken away, or None.
        self.until = None

    def is_known(self, k):
        """True if as known on the day k the cause is to be heard."""
        return self.since <= k and (self.until is None or self.until > k)


class Lists:
    """The lists of all days."""

    def __init__(self):
        self._days = {}

    def hearings(self, day, k):
        """The list of the day as known on k, ascending by the names."""
        return sorted([told.hearing for told in self._days.get(day, []) if told.is_known(k)])

    def has(self, day, k, cause):
        """True if the cause is on the list of the day as known on k."""
        return cause in [hearing[0] for hearing in self.hearings(day, k)]

    def put(self, day, today, hearing):
        """Puts a hearing on the list of a day."""
        self._days.setdefault(day, []).append(Told(today, hearing))

    def take_away(self, day, today, cause):
        """Takes a cause off the list of a day."""
        for told in self._days[day]:
            if told.hearing[0] == cause and told.until is None:
                told.until = today
