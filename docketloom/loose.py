"""What a rule book lets happen: loose states, moves and courses, and courses laid as deeds."""

from docketloom.errors import Malformed, Refused, TooMuch
from docketloom.laying import Laying
from docketloom.roaming import FIRST_STATE, Looseness, Roads
from docketloom.rulebook import kind_rule

MOST_DEEDS = 500


def loose_moves(book, state):
    """The ascending list of the moves in a loose state."""
    return Looseness(book).moves(state)


def after(book, state, move):
    """The loose state behind a move."""
    behind = Looseness(book).after(state, move)
    if behind is None:
        raise Refused("no move in this state")
    return behind


def reached_states(book):
    """The ascending list of the loose states that can be reached."""
    return sorted(Roads(book).states())


def course_to(book, kind):
    """The first course at whose end the kind has been filed, or None."""
    kind_rule(book, kind)
    roads = Roads(book)
    at = roads.first_filed(kind)
    return None if at is None else roads.road(at)


def dead_course(book):
    """The first course to a dead end, or None."""
    roads = Roads(book)
    at = roads.first_dead_end()
    return None if at is None else roads.road(at)


def states_ahead(loose, course):
    """The list of the states in which the moves of a loose course are made."""
    if type(course) is not list:
        raise Malformed("no list of moves")
    state = FIRST_STATE
    found = []
    for move in course:
        found.append(state)
        state = loose.after(state, move)
        if state is None:
            raise Malformed("no loose course")
    return found


def laid(book, regimes, course):
    """The list of the pairs (day, deed) of the loose course."""
    loose = Looseness(book)
    states = states_ahead(loose, course)
    laying = Laying(book, regimes, loose)
    for state, move in zip(states, course):
        laying.lay(state, move)
    if len(laying.deeds) > MOST_DEEDS:
        raise TooMuch("too many deeds")
    return laying.deeds
