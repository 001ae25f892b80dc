"""Rule books: the duties and the kinds of filings of a court."""

from docketloom.errors import NotThere
from docketloom.kinds import COURT, FILING_NEEDS, is_duty_rule, is_kind
from docketloom.names import is_ascending, is_tuple

MOST_DUTIES = 12
MOST_KINDS = 16
MOST_ROLES = 8


def is_rule_book(value):
    """True if the value, of any kind, is a rule book."""
    if not is_tuple(value, 2, 2) or not is_tuple(value[0], 0, MOST_DUTIES) or not is_tuple(value[1], 1, MOST_KINDS):
        return False
    if not all(is_duty_rule(rule) for rule in value[0]) or not all(is_kind(rule) for rule in value[1]):
        return False
    duties = [rule[0] for rule in value[0]]
    kinds = [rule[0] for rule in value[1]]
    if not is_ascending(duties) or not is_ascending(kinds):
        return False
    if not all(duty in duties for duty in named_duties(value)) or not all(kind in kinds for kind in named_kinds(value)):
        return False
    return len([role for role in roles_of(value) if role != COURT]) <= MOST_ROLES


def named_duties(book):
    """The duties that the kinds of a rule book name."""
    found = []
    for _, _, needs, does, opens, _, _ in book[1]:
        found.extend([name for word, name in needs if word not in FILING_NEEDS])
        found.extend(does)
        found.extend([duty for duty, _ in opens])
    return found


def named_kinds(book):
    """The kinds that the kinds of a rule book name."""
    found = []
    for _, _, needs, _, _, bars, _ in book[1]:
        found.extend([name for word, name in needs if word in FILING_NEEDS])
        found.extend(bars)
    return found


def roles_of(book):
    """The ascending list of the roles that the rule book names, with the court's."""
    found = {COURT: True}
    for _, roles, _, _, opens, _, _ in book[1]:
        for role in roles:
            found[role] = True
        for _, role in opens:
            if role != "":
                found[role] = True
    return sorted(found)


def duty_rule(book, duty):
    """The rule of the duty."""
    for rule in book[0]:
        if rule[0] == duty:
            return rule
    raise NotThere("no such duty")


def kind_rule(book, kind):
    """The rule of the kind."""
    for rule in book[1]:
        if rule[0] == kind:
            return rule
    raise NotThere("no such kind")
