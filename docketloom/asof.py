"""What is known on a day: states, grounds, what was overtaken, turns, news, and windows for filings."""

from docketloom.days import LAST_DAY
from docketloom.errors import NotThere, OutOfRange, TooMuch
from docketloom.playing import Playing, entry_days, rows_for, told_row
from docketloom.rulebook import duty_rule, kind_rule
from docketloom.standing import STANDS, Scene, scene

MOST_ROWS = 40
NO_DUTY = "none"


def state_of_row(row):
    """The state that a duty row tells; None is that of no such duty."""
    return NO_DUTY if row is None else row[3]


def duty_state(docket, cause, opened, party, duty, d, k):
    """The state of the duty on the day d as known on k, or "none"."""
    return state_of_row(told_row(scene(docket, d, k), cause, opened, party, duty, d))


def grounds(docket, cause, opened, party, duty, d, k):
    """The ascending list of the numbers of the grounds of the duty row."""
    rows = rows_for(docket, cause, d, k)
    play = Playing(docket)
    play.go_on(rows)
    told = told_row(play.stage, cause, opened, party, duty, d)
    if told is None:
        raise NotThere("no such duty")
    if len(rows) > MOST_ROWS:
        raise TooMuch("too many rows")
    return sorted([number for number, _ in needed_rows(docket, rows, told, cause, d)])


def needed_rows(docket, rows, told, cause, d):
    """What is left of the rows when each time the last one without which the same is told was left out."""
    kept = list(rows)
    # Each row that was found to be needed, with the rows that were idle when it was left out. If one of these is left
    # out for good, nothing changes there: the row is still needed, and need not be tried again.
    needed = {}
    at = len(kept) - 1
    while at >= 0:
        number = kept[at][0]
        if number in needed:
            at -= 1
            continue
        others = kept[:at] + kept[at + 1:]
        play = Playing(docket)
        play.go_on(others)
        if told_row(play.stage, cause, told[0], told[1], told[2], d) != told:
            needed[number] = {other: True for other, word in play.words.items() if word != STANDS}
            at -= 1
        else:
            kept = others
            needed = {other: idle for other, idle in needed.items() if number in idle}
            at = len(kept) - 1
    return kept


def tells(docket, numbers, cause, opened, party, duty, d, k):
    """The duty row that playing just the rows with these numbers tells, or None."""
    chosen = {number: True for number in numbers}
    play = Playing(docket)
    play.go_on([row for row in rows_for(docket, cause, d, k) if row[0] in chosen])
    return told_row(play.stage, cause, opened, party, duty, d)


def overtaken(docket, k):
    """The ascending list of the numbers of the entries that are overtaken as known on k."""
    now = Playing(docket)
    now.go_on(docket.rows(k))
    then = Playing(docket)
    seen = None
    found = []
    for number, entered, _, _ in docket.entries():
        if number not in now.words:
            continue
        if entered != seen:
            then.go_on(docket.rows(entered))
            seen = entered
        if then.words.get(number) != now.words[number]:
            found.append(number)
    return found


def turns(docket, cause, opened, party, duty, d):
    """The turns of the state of the duty for the day d."""
    play = Playing(docket)
    before = NO_DUTY
    found = []
    for k in entry_days(docket):
        play.go_on(rows_for(docket, cause, d, k))
        state = state_of_row(told_row(play.stage, cause, opened, party, duty, d))
        if state != before:
            found.append((k, state))
            before = state
    return found


def states(docket, d, k):
    """The state of each duty, by its cause, opening entry, party and name."""
    stage = scene(docket, d, k)
    return {(cause,) + row[:3]: row[3] for cause in stage.causes() for row in stage.duties(cause, d)}


def news(docket, d, k, m):
    """The news of the day d from k to m."""
    if m <= k:
        raise OutOfRange("the second day is not later")
    before = states(docket, d, k)
    behind = states(docket, d, m)
    found = []
    for duty in sorted({key: True for key in list(before) + list(behind)}):
        one = before.get(duty, NO_DUTY)
        other = behind.get(duty, NO_DUTY)
        if one != other:
            found.append(duty + (one, other))
    return found


def windows(docket, cause, party, kind, d, k):
    """The windows of the kind for the party, from the day d on, as known on k."""
    kind_rule(docket.book, kind)
    rows = rows_for(docket, cause, LAST_DAY, k)
    stage = Scene(docket)
    found = []
    for at, (number, day) in enumerate(rows):
        stage.play(number, day)
        # What stands on a day stands behind all rows of this day.
        behind = rows[at + 1][1] if at + 1 < len(rows) else LAST_DAY + 1
        for first, stop in stretches(docket, stage, cause, max(d, day), behind):
            if stage.would_stand(cause, party, kind, first):
                add_window(found, first, stop)
    return [(first, None if stop > LAST_DAY else stop) for first, stop in found]


def add_window(found, first, behind):
    """Adds days to the windows that were found, as part of the last one if they follow it."""
    if len(found) > 0 and found[-1][1] == first:
        found[-1] = (found[-1][0], behind)
    else:
        found.append((first, behind))


def stretches(docket, stage, cause, first, behind):
    """The days from first on, before behind, in stretches in which no duty of the cause changes its state."""
    if first >= behind or cause not in stage.causes():
        return []
    bounds = {first: True}
    for _, _, duty, _, _, last, _ in stage.duties(cause, first):
        _, _, grace = duty_rule(docket.book, duty)
        if last is not None:
            for turn in (last + 1, last + 1 + (0 if grace is None else grace)):
                if first < turn < behind:
                    bounds[turn] = True
    starts = sorted(bounds)
    return [(start, stop) for start, stop in zip(starts, starts[1:] + [behind])]
