"""Rows played for one day after the other on which more of a docket is known."""

from docketloom.standing import Scene

STAYING = ("stay", "lift")


def rows_for(docket, cause, d, k):
    """The rows known on k, with days up to d, of the cause, and those of all stays: no others matter for the cause."""
    entries = docket.entries()
    found = []
    for number, day in docket.rows(k):
        deed = entries[number][3]
        if day <= d and (deed[0] in STAYING or deed[1] == cause):
            found.append((number, day))
    return found


def entry_days(docket):
    """The ascending list of the days on which entries were entered."""
    return sorted({entered: True for _, entered, _, _ in docket.entries()})


class Playing:
    """The scene behind some rows, and the words of these; it goes on from there if further rows follow them."""

    def __init__(self, docket):
        self._docket = docket
        self._rows = []
        self.stage = Scene(docket)
        self.words = {}

    def go_on(self, rows):
        """Plays a list of rows, or only its last ones, if those ahead of them were just played."""
        many = len(self._rows)
        if rows[:many] != self._rows:
            many = 0
            self.stage = Scene(self._docket)
            self.words = {}
        for number, day in rows[many:]:
            self.words[number] = self.stage.play(number, day)
        self._rows = list(rows)


def told_row(stage, cause, opened, party, duty, d):
    """The duty row that a scene tells, or None."""
    if cause not in stage.causes():
        return None
    for row in stage.duties(cause, d):
        if row[:3] == (opened, party, duty):
            return row
    return None
