"""Books, by which no cause falls in any course, and traps, by which one falls whatever is dealt."""

from docketloom.bounds import are_counts, is_move, is_state, is_within, many_moves, moves, start_state
from docketloom.courses import dealings, dealt_morning
from docketloom.errors import Malformed
from docketloom.hearers import is_none_more
from docketloom.names import is_ascending, is_tuple
from docketloom.tracks import Track
from docketloom.walking import Walk


def moves_in(promise, state, kept):
    """The moves in a state. They hang on the pasts alone, and those of all pasts that were asked for are kept."""
    pasts = state[1:]
    if pasts not in kept:
        kept[pasts] = moves(promise, state)
    return kept[pasts]


def made_book(promise):
    """The made book, or None if the start is lost."""
    walk = Walk(promise)
    if 0 in walk.lost:
        return None
    kept = {}
    found = {}
    left = [0]
    while len(left) > 0:
        state = left.pop()
        if state not in found:
            replies, mornings = made_replies(walk, state, moves_in(promise, walk.track.told(state), kept))
            found[state] = replies
            left.extend(mornings)
    return sorted([(walk.track.told(state), replies) for state, replies in found.items()])


def made_replies(walk, state, asked):
    """The replies of the made book to the moves in a state, and the list of the states that follow by them."""
    places = walk.track.places(state)
    replies = []
    mornings = {}
    for move in asked:
        dealing, behind = least_reply(walk, places, move)
        replies.append((move, dealing))
        mornings[behind] = True
    return replies, list(mornings)


def least_reply(walk, places, move):
    """The least lawful dealing whose next morning is there and not lost, and this morning."""
    filed, absent = move
    due = walk.track.must_hear(places, filed)
    for dealing, heard in walk.track.hearers.choices(absent, walk.track.can_be_heard(places, filed)):
        if is_none_more(due, heard):
            behind = walk.track.behind(places, filed, absent, heard)
            if behind not in walk.lost:
                return dealing, behind
    return None, None


def made_trap(promise):
    """The made trap, or None if the start is not lost."""
    walk = Walk(promise)
    if 0 not in walk.lost:
        return None
    kept = {}
    found = []
    for state, rank in walk.lost.items():
        told = walk.track.told(state)
        found.append((told, least_shown(walk, state, moves_in(promise, told, kept)), rank))
    return sorted(found)


def least_shown(walk, state, asked):
    """The least one, of the moves in a lost state, that shows its rank."""
    rank = walk.lost[state]
    places = walk.track.places(state)
    for move in asked:
        bounds = (walk.track.must_hear(places, move[0]), walk.track.can_be_heard(places, move[0]))
        mornings = walk.track.best(places, move[0], move[1], bounds)
        if all([walk.lost.get(behind, rank) < rank for behind in mornings]):
            return move
    return None


def has_states(promise, value, parts):
    """True if the value, of any kind, is a list of tuples of so many parts, ascending by states, with the start."""
    if type(value) is not list or not all([is_tuple(row, parts, parts) and is_state(promise, row[0]) for row in value]):
        return False
    states = [row[0] for row in value]
    return is_ascending(states) and start_state(promise) in states


def is_strict(move):
    """True if a value that equals a move is made of the same kinds of values."""
    if type(move) is not tuple:
        return False
    return all([are_counts(part, len(part)) for part in move])


def are_replies(promise, state, value, kept):
    """True if the value, of any kind, is a list of pairs of a move and something, with each move in order."""
    if type(value) is not list or not all([is_tuple(row, 2, 2) for row in value]):
        return False
    found = [move for move, _ in value]
    if len(found) != many_moves(promise, state) or found != moves_in(promise, state, kept):
        return False
    return all([is_strict(move) for move in found])


def closes(promise, book):
    """True if the value book, of any kind, is a book that closes."""
    kept = {}
    if not has_states(promise, book, 2):
        return False
    if not all([are_replies(promise, state, replies, kept) for state, replies in book]):
        return False
    track = Track(promise)
    known = {track.number_of(state): True for state, _ in book}
    for number, page in zip(list(known), book):
        places = track.places(number)
        for move, dealing in page[1]:
            if morning_of(track, places, move, dealing) not in known:
                return False
    return True


def morning_of(track, places, move, dealing):
    """The next state, or None if the value dealing, of any kind, is not lawful, or the day falls."""
    filed, absent = move
    if type(dealing) is not tuple or not all([type(kind) is int for kind in dealing]):
        return None
    heard = track.hearers.lawful(absent).get(dealing)
    if heard is None or not is_none_more(heard, track.can_be_heard(places, filed)):
        return None
    if not is_none_more(track.must_hear(places, filed), heard):
        return None
    return track.behind(places, filed, absent, heard)


def shuts(promise, trap):
    """True if the value trap, of any kind, is a trap that shuts."""
    if not has_states(promise, trap, 3):
        return False
    for state, move, rank in trap:
        if not is_move(promise, state, move) or type(rank) is not int or rank < 0:
            return False
    track = Track(promise)
    ranks = {track.number_of(state): rank for state, _, rank in trap}
    for number, row in zip(list(ranks), trap):
        places = track.places(number)
        for behind in mornings_of(track, places, row[1]):
            if ranks.get(behind, row[2]) >= row[2]:
                return False
    return True


def mornings_of(track, places, move):
    """The list of the next states behind all lawful dealings by which the day does not fall."""
    filed, absent = move
    due = track.must_hear(places, filed)
    choices = track.hearers.choices(absent, track.can_be_heard(places, filed))
    return [track.behind(places, filed, absent, heard) for _, heard in choices if is_none_more(due, heard)]


def deal_by(promise, book, course):
    """The list of the dealings by a book that closes."""
    if not closes(promise, book) or not is_within(promise, course):
        raise Malformed("no book that closes, or no course within the promise")
    pages = {state: replies for state, replies in book}
    opened = {}
    state = start_state(promise)
    found = []
    for move in course:
        if state not in opened:
            opened[state] = {told: dealing for told, dealing in pages[state]}
        dealing = opened[state][move]
        found.append(dealing)
        state = dealt_morning(promise, state, move, dealing)
    return found


def spring(promise, trap, choices):
    """The course of a trap that shuts, when these choices are dealt."""
    if not shuts(promise, trap):
        raise Malformed("no trap that shuts")
    told = {state: move for state, move, _ in trap}
    state = start_state(promise)
    course = []
    while state is not None:
        move = told[state]
        lawful = dealings(promise, state, move)
        choice = choices[len(course)] if len(course) < len(choices) else 0
        course.append(move)
        state = dealt_morning(promise, state, move, lawful[choice % len(lawful)])
    return course
