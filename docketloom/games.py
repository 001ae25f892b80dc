"""Promises as games against all courses: the states, and those from which a cause will fall."""

from docketloom.walking import Walk


def reached(promise):
    """The ascending list of the states that can be reached."""
    walk = Walk(promise)
    return sorted([walk.track.told(state) for state in walk.numbers])


def lost_states(promise):
    """A dict with the rank of each lost state."""
    walk = Walk(promise)
    return {walk.track.told(state): rank for state, rank in walk.lost.items()}


def can_keep(promise):
    """True if the start is not lost."""
    # The start is the state 0.
    return 0 not in Walk(promise).lost
