"""Who bears costs: expenses, judgments, orders, turns and burdens."""

from docketloom.coins import is_money, is_rate
from docketloom.errors import Refused, TooMuch
from docketloom.names import is_ascending, is_name, is_names, is_one_of, is_tuple
from docketloom.parts import dealt

RULE_WAYS = ("own", "loser", "part")
MOST_HEADS = 6
MOST_FINDINGS = 12


def is_expense(value):
    """True if the value, of any kind, is an expense."""
    return is_tuple(value, 3, 3) and is_name(value[0]) and is_money(value[1]) and is_names(value[2], 1, MOST_HEADS)


def is_judgment(value):
    """True if the value, of any kind, is a judgment."""
    if not is_tuple(value, 0, MOST_FINDINGS) or not all(is_finding(item) for item in value):
        return False
    return is_ascending([head for head, _, _ in value])


def is_finding(value):
    """True if the value, of any kind, is a finding."""
    return is_tuple(value, 3, 3) and all(is_name(item) for item in value) and value[1] != value[2]


def is_rule(value):
    """True if the value, of any kind, is a cost rule."""
    return is_tuple(value, 2, 2) and is_one_of(value[0], RULE_WAYS) and is_rate(value[1])


def plain(debts):
    """The plain form of debts."""
    nets = {}
    for debtor, creditor, amount in debts:
        if debtor < creditor:
            nets[(debtor, creditor)] = nets.get((debtor, creditor), 0) + amount
        else:
            nets[(creditor, debtor)] = nets.get((creditor, debtor), 0) - amount
    found = [(one, other, amount) for (one, other), amount in nets.items() if amount > 0]
    found += [(other, one, -amount) for (one, other), amount in nets.items() if amount < 0]
    return sorted(found)


def shifted(part, rule):
    """What the loser of a head owes of a part of an expense."""
    way, (share, whole) = rule
    if way == "own":
        return 0
    return part if way == "loser" else part * share // whole


def claims(expenses, rule):
    """The list of the tuples (head, party, amount) of what the loser of a head owes to a party that won it."""
    found = []
    for party, amount, heads in expenses:
        for head, part in zip(heads, dealt(amount, [1] * len(heads))):
            found.append((head, party, shifted(part, rule)))
    return [claim for claim in found if claim[2] > 0]


def debts_by(claimed, judgment):
    """The list of all that is owed by a judgment, of what is claimed for each head."""
    findings = {head: (winner, loser) for head, winner, loser in judgment}
    found = []
    for head, party, amount in claimed:
        if head in findings and findings[head][0] == party:
            found.append((findings[head][1], party, amount))
    return found


def net_of(debts, party):
    """What the party owes by debts, less what is owed to it."""
    owes = sum([amount for debtor, _, amount in debts if debtor == party])
    return owes - sum([amount for _, creditor, amount in debts if creditor == party])


def order(expenses, judgment, rule):
    """The order of the judgment."""
    return plain(debts_by(claims(expenses, rule), judgment))


def turn(expenses, earlier, later, rule):
    """The turn of two judgments."""
    claimed = claims(expenses, rule)
    back = [(creditor, debtor, amount) for debtor, creditor, amount in debts_by(claimed, earlier)]
    return plain(debts_by(claimed, later) + back)


def burden(expenses, judgment, rule, party):
    """The burden of the party by the judgment."""
    return net_of(debts_by(claims(expenses, rule), judgment), party)


def greatest_burden(expenses, judgment, open_heads, rule, party):
    """The greatest burden of the party, and the judgment by which the party has it."""
    found_heads = [head for head, _, _ in judgment]
    if any(head in found_heads for head, _, _ in open_heads):
        raise Refused("the judgment has a finding for an open head")
    if len(judgment) + len(open_heads) > MOST_FINDINGS:
        raise TooMuch("too many heads")
    claimed = claims(expenses, rule)
    findings = list(judgment)
    # Each head adds to the burden by itself, so each is found by itself.
    for head, one, other in open_heads:
        straight = (head, one, other)
        turned = (head, other, one)
        is_greater = net_of(debts_by(claimed, (turned,)), party) > net_of(debts_by(claimed, (straight,)), party)
        findings.append(turned if is_greater else straight)
    worst = tuple(sorted(findings))
    return (net_of(debts_by(claimed, worst), party), worst)


def is_enough(expenses, judgment, open_heads, rule, party, security):
    """True if the security is enough for the party."""
    return security >= greatest_burden(expenses, judgment, open_heads, rule, party)[0]
