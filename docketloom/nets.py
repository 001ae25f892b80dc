"""Balances of debts, and the fewest payments that settle them."""

from docketloom.errors import TooMuch
from docketloom.names import is_name, is_tuple

MOST_PARTIES = 10


def nets_of(debts):
    """A dict of what is owed to each party, less what it owes."""
    found = {}
    for debtor, creditor, amount in debts:
        found[debtor] = found.get(debtor, 0) - amount
        found[creditor] = found.get(creditor, 0) + amount
    return found


def balances(debts):
    """The ascending list of the pairs (party, balance) of the parties whose balance is not nought."""
    return sorted([(party, balance) for party, balance in nets_of(debts).items() if balance != 0])


def is_amount(value):
    """True if the value, of any kind, is an integer from 1 on."""
    return type(value) is int and value >= 1


def is_transfer(value):
    """True if the value, of any kind, is a triple of two different parties and an amount."""
    if not is_tuple(value, 3, 3) or not is_amount(value[2]):
        return False
    return is_name(value[0]) and is_name(value[1]) and value[0] != value[1]


def settles(debts, payments):
    """True if the payments, of any kind, are a list of payments that settle the debts."""
    if type(payments) is not list or not all(is_transfer(item) for item in payments):
        return False
    # What a party takes less what it pays is reckoned as what is owed to it less what it owes.
    return balances(debts) == balances(payments)


def sums_of_sets(amounts):
    """The sums of all sets of amounts; the bits of a set's number tell which are in it."""
    found = [0]
    for amount in amounts:
        found = found + [total + amount for total in found]
    return found


def most_groups(many, sums):
    """For each set, the most groups with the sum nought that its members, taken in some order, complete one by one."""
    found = [0]
    for chosen in range(1, len(sums)):
        best = max([found[chosen - (1 << at)] for at in range(many) if chosen >> at & 1 == 1])
        found.append(best + 1 if sums[chosen] == 0 else best)
    return found


def groups(debts):
    """The list of the told groups."""
    parties = balances(debts)
    if len(parties) > MOST_PARTIES:
        raise TooMuch("too many parties")
    names = [party for party, _ in parties]
    sums = sums_of_sets([balance for _, balance in parties])
    most = most_groups(len(names), sums)
    left = len(sums) - 1
    found = []
    while left > 0:
        group, chosen = first_group(names, sums, most, left)
        found.append(group)
        left -= chosen
    return found


def first_group(names, sums, most, left):
    """The least group of the first party that is left, behind which as many groups as can be are left; and its set."""
    first = left & -left
    best = None
    rest = left - first
    chosen = rest
    # All sets of the others, from the greatest number down.
    while chosen >= 0:
        group = chosen + first
        if sums[group] == 0 and most[left - group] == most[left] - 1:
            told = tuple([name for at, name in enumerate(names) if group >> at & 1 == 1])
            if best is None or told < best[0]:
                best = (told, group)
        chosen = (chosen - 1) & rest if chosen > 0 else -1
    return best


def payments(debts):
    """The list of the told payments."""
    found = []
    standing = nets_of(debts)
    for group in groups(debts):
        payers = [[party, -standing[party]] for party in group if standing[party] < 0]
        takers = [[party, standing[party]] for party in group if standing[party] > 0]
        found.extend(paid(payers, takers))
    return sorted(found)


def paid(payers, takers):
    """The payments by which payers and takers, each in order, come to an end."""
    found = []
    paying = 0
    taking = 0
    while paying < len(payers):
        payer = payers[paying]
        taker = takers[taking]
        amount = min(payer[1], taker[1])
        found.append((payer[0], taker[0], amount))
        payer[1] -= amount
        taker[1] -= amount
        if payer[1] == 0:
            paying += 1
        if taker[1] == 0:
            taking += 1
    return found


def fewest(debts):
    """The least number of payments that settle the debts."""
    return len(balances(debts)) - len(groups(debts))
