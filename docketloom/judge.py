"""Certificates held against the log of an office."""

from docketloom.answers import certify_duty, is_question, is_value, with_hearing
from docketloom.errors import NotThere, TooMuch
from docketloom.finality import ending_of, is_way, may_end
from docketloom.names import is_same, is_tuple
from docketloom.office import office_of
from docketloom.proofs import shows_by
from docketloom.slots import is_lack


def holds(charter, log, certificate):
    """True if the value certificate, of any kind, holds."""
    if not is_tuple(certificate, 3, 3) or not is_question(certificate[0]):
        return False
    office = office_of(charter, log)
    question = certificate[0]
    if question[-1] > office.today():
        return False
    try:
        return is_borne_out(office, certificate)
    except (NotThere, TooMuch):
        return False


def is_borne_out(office, certificate):
    """True if the office bears the certificate out. Raises NotThere and TooMuch."""
    question = certificate[0]
    if question[0] == "duty":
        _, answer, paper = certify_duty(office, question)
        return is_same(certificate[1], answer) and is_same(certificate[2], paper)
    if question[0] == "served":
        return is_served(office, certificate)
    if question[0] == "may":
        return is_possible(office, certificate)
    if question[0] == "open":
        return is_open_still(office, certificate)
    return is_full(office, certificate)


def is_served(office, certificate):
    """True if the answer is the day on which the paper is served, and the proof shows it."""
    (_, number, party, k), answer, proof = certificate
    served = office.served(number, party, k)
    if served is None or not is_same(answer, served):
        return False
    serving, events = office.paper(number, party, k)
    return shows_by(serving, party, events, proof) and proof[0] == served


def leads_to(matter, day, way, head, value):
    """True if the value way, of any kind, is a way from the day on behind which the head has the value."""
    if not is_way(matter, day, way):
        return False
    names = [name for name, _, _ in matter.heads]
    return ending_of(matter, way)[names.index(head)] == value


def is_possible(office, certificate):
    """True if the answer is the price of the value, and the way leads to it with so many appeals."""
    (_, cause, head, value, k), answer, way = certificate
    matter = office.matter(cause, k)
    prices = may_end(matter, k, head)
    if value not in prices or not is_same(answer, prices[value]) or not leads_to(matter, k, way, head, value):
        return False
    return len([move for move in way if move[1] == "appeal"]) == answer


def is_open_still(office, certificate):
    """True if the answer is two values of the head, and the ways lead to them."""
    (_, cause, head, k), answer, ways = certificate
    matter = office.matter(cause, k)
    prices = may_end(matter, k, head)
    if not is_tuple(answer, 2, 2) or not is_tuple(ways, 2, 2) or not all([is_value(value) for value in answer]):
        return False
    if answer[0] == answer[1] or not all([value in prices for value in answer]):
        return False
    return all([leads_to(matter, k, way, head, value) for way, value in zip(ways, answer)])


def is_full(office, certificate):
    """True if the answer is the list with the hearing, and the lack is one of it."""
    question, answer, found = certificate
    hearings = with_hearing(office, question)
    if hearings is None or not is_same(answer, hearings):
        return False
    return is_lack(office.charter[8], question[1], hearings, found)
