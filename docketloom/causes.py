"""What a scene keeps of one cause and of one duty."""

from docketloom.kinds import COURT

LIVE = ("waiting", "open", "overdue")


class Owed:
    """One duty of one party, from the filing that opened it on."""

    def __init__(self, opened, party, duty, word, grace):
        self.opened = opened
        self.party = party
        self.duty = duty
        self.word = word
        self.grace = grace
        self.start = None
        self.leave = None
        # The numbers of the entries that began the stays of the duty.
        self.stayed_by = []
        # The last day as it is now; it is reckoned anew if stays or leave have changed it.
        self.due = None
        self.is_reckoned = False
        # The words done, late or void, and the filing by which it is so: then nothing of the duty changes any more.
        self.closed = None
        self.closed_by = None

    def begin(self, day, stays):
        """Starts the duty on a day, under the stays with these numbers."""
        self.start = day
        self.stayed_by = list(stays)
        self.is_reckoned = False

    def give_leave(self, day):
        """Notes that there is leave up to the day."""
        self.leave = day
        self.is_reckoned = False

    def stay(self, number):
        """Puts the duty under one stay more."""
        self.stayed_by.append(number)
        self.is_reckoned = False


class Cause:
    """A cause that has begun: its parties with their roles, its filings and its duties."""

    def __init__(self, name, parties):
        self.name = name
        self.roles = {party: role for party, role in parties}
        self.roles[COURT] = COURT
        self.filed = []
        self.owed = []
        self.is_over = False

    def has_filing(self, kind):
        """True if a filing of the kind stands in the cause."""
        return kind in [other for _, other in self.filed]

    def parties_of(self, role):
        """The ascending list of the parties of a role."""
        return sorted([party for party in self.roles if self.roles[party] == role])
