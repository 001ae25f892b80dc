"""The docket: entries, corrections, and the rows that are known on a day."""

from docketloom.almanac import Almanac
from docketloom.days import check_day
from docketloom.errors import Malformed, NotThere, Refused, TooMuch
from docketloom.kinds import is_deed
from docketloom.names import is_number
from docketloom.regimes import is_regimes
from docketloom.rulebook import duty_rule, is_rule_book, kind_rule

MOST_ENTRIES = 500
MOST_BEGUN_STAYS = 100
CORRECTIONS = ("strike", "amend")
NAMING = ("lift", "strike", "amend")


def is_correction(deed):
    """True if the deed is a correction."""
    return deed[0] in CORRECTIONS


def check_words(book, regimes):
    """Raises NotThere if a regime has no rule for the word of a duty rule."""
    for _, (_, rules) in regimes[1]:
        words = [word for word, _ in rules]
        if not all(word in words for _, word, _ in book[0]):
            raise NotThere("a regime has no rule for a duty")


class Docket:
    """Entries under a rule book and regimes."""

    def __init__(self, book, regimes):
        if not is_rule_book(book):
            raise Malformed("no rule book")
        if not is_regimes(regimes):
            raise Malformed("no regimes")
        check_words(book, regimes)
        self.book = book
        self.regimes = regimes
        # All scenes of a docket share what is worked out of the calendars.
        self.almanac = Almanac(regimes)
        self._entries = []

    def enter(self, entered, held, deed):
        """Enters a deed, and returns the number of the entry."""
        check_day(entered)
        check_day(held)
        if not is_deed(deed):
            raise Malformed("no deed")
        self._check_named(deed)
        if len(self._entries) > 0 and entered < self._entries[-1][1]:
            raise Refused("the last entry was entered later")
        if deed[0] == "amend" and is_correction(self._entries[deed[1]][3]):
            raise Refused("a correction is not amended")
        if len(self._entries) >= MOST_ENTRIES:
            raise TooMuch("the docket is full")
        if deed[0] == "stay" and self._many_stays() >= MOST_BEGUN_STAYS:
            raise TooMuch("too many stays")
        number = len(self._entries)
        self._entries.append((number, entered, held, deed))
        return number

    def _check_named(self, deed):
        """Raises NotThere if the deed names a kind, a duty or an earlier entry that does not exist."""
        if deed[0] == "file":
            kind_rule(self.book, deed[3])
        elif deed[0] in ("served", "leave"):
            duty_rule(self.book, deed[3])
        elif deed[0] in NAMING:
            self.entry(deed[1])

    def _many_stays(self):
        """The number of the entries that begin a stay."""
        return len([entry for entry in self._entries if entry[3][0] == "stay"])

    def entry(self, number):
        """The entry with this number. Raises NotThere."""
        if not is_number(number, 0, len(self._entries) - 1):
            raise NotThere("no such entry")
        return self._entries[number]

    def entries(self):
        """The list of the entries."""
        return list(self._entries)

    def many(self):
        """The number of the entries."""
        return len(self._entries)

    def cut(self, many):
        """Takes all entries but the first ones back."""
        self._entries = self._entries[:many]

    def twin(self):
        """Another docket with the same entries."""
        other = Docket(self.book, self.regimes)
        other.almanac = self.almanac
        other.take(self._entries)
        return other

    def take(self, entries):
        """Takes over the entries of another docket under the same rule book and regimes."""
        self._entries = list(entries)

    def _known(self, k):
        """The list of the entries that were entered on the day k or earlier."""
        return [entry for entry in self._entries if entry[1] <= k]

    def _strikes(self, k):
        """A dict of the numbers of the entries that are struck, as known on the day k."""
        found = {}
        # A strike names an earlier entry: from the last one down, each is decided ahead of those that it strikes.
        for number, _, _, deed in reversed(self._known(k)):
            if deed[0] == "strike" and number not in found:
                found[deed[1]] = True
        return found

    def struck(self, k):
        """The ascending list of the numbers of the entries that are known on the day k and struck."""
        return sorted(self._strikes(k))

    def rows(self, k):
        """The list of the rows (number, day) known on the day k."""
        struck = self._strikes(k)
        days = {}
        for number, _, held, deed in self._known(k):
            if number in struck:
                continue
            if deed[0] == "amend":
                days[deed[1]] = deed[2]
            elif deed[0] != "strike":
                days[number] = held
        # An amendment may be known of an entry that is struck.
        found = [(day, number) for number, day in days.items() if number not in struck]
        return [(number, day) for day, number in sorted(found)]


def docket_of(book, regimes, entries):
    """A docket with these entries."""
    docket = Docket(book, regimes)
    for at, (number, entered, held, deed) in enumerate(entries):
        if not is_number(number, at, at):
            raise Malformed("the entries are not numbered from 0 on")
        docket.enter(entered, held, deed)
    return docket
