"""Certificates: answers of an office, with the papers that show them."""

from docketloom.asof import grounds
from docketloom.charter import is_hearing
from docketloom.days import is_day
from docketloom.errors import Malformed
from docketloom.finality import may_end, way_to
from docketloom.kinds import is_entry_number
from docketloom.names import is_name, is_number
from docketloom.placing import lack
from docketloom.playing import told_row
from docketloom.proofs import proof_by
from docketloom.slots import MOST_HEARINGS
from docketloom.standing import scene

VALUES = (0, 1, None)
# How many parts the questions have.
QUESTION_LENGTHS = {"duty": 7, "served": 4, "may": 5, "open": 4, "full": 7}


def is_value(value):
    """True if the value, of any kind, is one that a head can have."""
    return value is None or is_number(value, 0, 1)


def is_question(value):
    """True if the value, of any kind, is a question."""
    if type(value) is not tuple or len(value) == 0 or type(value[0]) is not str:
        return False
    if QUESTION_LENGTHS.get(value[0]) != len(value) or not is_day(value[-1]):
        return False
    if value[0] == "duty":
        _, cause, opened, party, duty, d, _ = value
        return is_name(cause) and is_entry_number(opened) and is_name(party) and is_name(duty) and is_day(d)
    if value[0] == "served":
        return is_entry_number(value[1]) and is_name(value[2])
    if value[0] == "full":
        _, day, cause, length, first, behind, _ = value
        return is_day(day) and is_hearing(cause, length, first, behind)
    if value[0] == "may" and not is_value(value[3]):
        return False
    return is_name(value[1]) and is_name(value[2])


def certify(office, question):
    """A certificate for the question, or None if there is none."""
    if not is_question(question):
        raise Malformed("no question")
    office.check_known(question[-1])
    if question[0] == "duty":
        return certify_duty(office, question)
    if question[0] == "served":
        return certify_served(office, question)
    if question[0] == "may":
        return certify_may(office, question)
    if question[0] == "open":
        return certify_open(office, question)
    return certify_full(office, question)


def certify_duty(office, question):
    """The duty row, and its grounds."""
    _, cause, opened, party, duty, d, k = question
    docket = office.docket()
    paper = grounds(docket, cause, opened, party, duty, d, k)
    return (question, told_row(scene(docket, d, k), cause, opened, party, duty, d), paper)


def certify_served(office, question):
    """The day on which the paper is served, and a proof of it."""
    _, number, party, k = question
    served = office.served(number, party, k)
    if served is None:
        return None
    serving, events = office.paper(number, party, k)
    return (question, served, proof_by(serving, party, events))


def certify_may(office, question):
    """The price of the value, and a way to it."""
    _, cause, head, value, k = question
    matter = office.matter(cause, k)
    prices = may_end(matter, k, head)
    if value not in prices:
        return None
    return (question, prices[value], way_to(matter, k, head, value))


def certify_open(office, question):
    """Two values that the head has in endings, and ways to them."""
    _, cause, head, k = question
    matter = office.matter(cause, k)
    prices = may_end(matter, k, head)
    found = [value for value in VALUES if value in prices][:2]
    if len(found) < 2:
        return None
    return (question, tuple(found), tuple([way_to(matter, k, head, value) for value in found]))


def with_hearing(office, question):
    """The list of the day with the hearing that is asked for; None if the cause is on it, or it is full."""
    _, day, cause, length, first, behind, k = question
    judge = office.dealt_to(cause, k)
    listed = office.hearings(day, k)
    if len(listed) >= MOST_HEARINGS or cause in [hearing[0] for hearing in listed]:
        return None
    return sorted(listed + [(cause, judge, length, first, behind)])


def certify_full(office, question):
    """The list of the day with the hearing that is asked for, and a lack of it."""
    hearings = with_hearing(office, question)
    if hearings is None:
        return None
    found = lack(office.charter[8], question[1], hearings)
    return None if found is None else (question, hearings, found)
