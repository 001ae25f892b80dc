"""Duty rules, kinds of filings, parties and deeds, asked of values of any kind."""

from docketloom.days import is_day
from docketloom.names import is_ascending, is_name, is_names, is_number, is_one_of, is_tuple
from docketloom.stays import MODES, is_scope

COURT = "court"
MOST_GRACE = 1000
MOST_PARTIES = 8
GREATEST_NUMBER = 499
FILING_NEEDS = ("filed", "free")
DUTY_NEEDS = ("waiting", "open", "overdue", "lapsed", "done")
DEED_LENGTHS = {"begin": 3, "file": 4, "served": 4, "leave": 5, "stay": 4, "lift": 2, "strike": 2, "amend": 3}


def is_duty_rule(value):
    """True if the value, of any kind, is a duty rule."""
    if not is_tuple(value, 3, 3):
        return False
    duty, word, grace = value
    return is_name(duty) and is_name(word) and (grace is None or is_number(grace, 0, MOST_GRACE))


def is_kind(value):
    """True if the value, of any kind, is a kind of filings."""
    if not is_tuple(value, 7, 7):
        return False
    kind, roles, needs, does, opens, bars, ends = value
    if not is_name(kind) or not are_names(roles) or len(roles) == 0:
        return False
    return are_needs(needs) and are_names(does) and are_opened(opens) and are_names(bars) and type(ends) is bool


def are_names(value):
    """True if the value, of any kind, is an ascending tuple of different names, however many."""
    return type(value) is tuple and is_names(value, 0, len(value))


def are_needs(value):
    """True if the value, of any kind, is the needs of a kind."""
    return type(value) is tuple and all(is_need(item) for item in value) and is_ascending(value)


def is_need(value):
    """True if the value, of any kind, is one need."""
    return is_tuple(value, 2, 2) and is_one_of(value[0], FILING_NEEDS + DUTY_NEEDS) and is_name(value[1])


def are_opened(value):
    """True if the value, of any kind, is the pairs of duties and roles that a kind opens."""
    return type(value) is tuple and all(is_opened(item) for item in value) and is_ascending(value)


def is_opened(value):
    """True if the value, of any kind, is a pair of a duty and a role, or the empty string for the party that files."""
    return is_tuple(value, 2, 2) and is_name(value[0]) and (is_name(value[1]) or is_one_of(value[1], ("",)))


def is_parties(value):
    """True if the value, of any kind, is the parties of a cause."""
    if not is_tuple(value, 0, MOST_PARTIES) or not all(is_party(item) for item in value):
        return False
    # Ascending by the parties alone: no two of them are equal.
    return is_ascending([party for party, _ in value])


def is_party(value):
    """True if the value, of any kind, is a party that is not the court, with its role."""
    return is_tuple(value, 2, 2) and all(is_name(item) and item != COURT for item in value)


def is_entry_number(value):
    """True if the value, of any kind, can be the number of an entry."""
    return is_number(value, 0, GREATEST_NUMBER)


def is_deed(value):
    """True if the value, of any kind, is a deed."""
    if type(value) is not tuple or len(value) == 0 or type(value[0]) is not str:
        return False
    word = value[0]
    if DEED_LENGTHS.get(word) != len(value):
        return False
    if word == "begin":
        return is_name(value[1]) and is_parties(value[2])
    if word == "stay":
        return is_scope(value[1], value[2]) and is_one_of(value[3], MODES)
    if word == "amend":
        return is_entry_number(value[1]) and is_day(value[2])
    if word in ("lift", "strike"):
        return is_entry_number(value[1])
    if word == "leave" and not is_day(value[4]):
        return False
    return all(is_name(item) for item in value[1:4])
