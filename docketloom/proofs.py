"""Proofs that a paper is served."""

from docketloom.days import weekday_of
from docketloom.names import is_number, is_tuple
from docketloom.service import Serving, is_chain_of, least_behind


def shows(calendar, manner, powers, party, events, proof):
    """True if the value proof, of any kind, is a proof that shows service on its day."""
    return shows_by(Serving(calendar, manner, powers), party, events, proof)


def shows_by(serving, party, events, proof):
    """True if the value proof, of any kind, shows service by this serving."""
    if not is_tuple(proof, 4, 4):
        return False
    day, number, chain, tries = proof
    if type(day) is not int or not is_number(number, 0, len(events) - 1):
        return False
    if serving.counts_on(party, events, number) != day:
        return False
    told, deed, whom = events[number]
    if deed == "door":
        return chain == () and are_tries(serving, party, events, told, tries)
    if tries != ():
        return False
    return is_chain_of(serving.powers, party, whom, told, serving.longest, chain)


def are_tries(serving, party, events, day, tries):
    """True if the value tries, of any kind, is as many good tries as there have to be, on different weekdays."""
    if not is_tuple(tries, serving.many_tries, serving.many_tries):
        return False
    good = serving.good_tries(party, events, day)
    if not all([type(number) is int and number in good for number in tries]):
        return False
    weekdays = {weekday_of(events[number][0]): True for number in tries}
    return len(weekdays) == len(tries) and all([tries[at - 1] < tries[at] for at in range(1, len(tries))])


def made_proof(calendar, manner, powers, party, events):
    """The made proof, or None if the paper is not served."""
    return proof_by(Serving(calendar, manner, powers), party, events)


def proof_by(serving, party, events):
    """The made proof by this serving, or None."""
    served = serving.served_on(party, events)
    if served is None:
        return None
    number = min([at for at in range(len(events)) if serving.counts_on(party, events, at) == served])
    day, deed, whom = events[number]
    if deed == "door":
        return (served, number, (), least_tries(serving, party, events, day))
    return (served, number, least_behind(serving.powers, [party], whom, day, serving.longest), ())


def least_tries(serving, party, events, day):
    """The least tuple of as many good tries as there have to be, on different weekdays."""
    # The first try of a weekday leaves as many other weekdays behind it as any later one does.
    first = {}
    for number in serving.good_tries(party, events, day):
        weekday = weekday_of(events[number][0])
        if weekday not in first:
            first[weekday] = number
    return tuple(list(first.values())[:serving.many_tries])
