"""Lowerings of plain debts: what may be left of them so that all balances stay the same."""

from docketloom.names import is_ascending, is_name, is_tuple
from docketloom.nets import balances, is_transfer, nets_of
from docketloom.routing import Network


def is_lowering(debts, left):
    """True if what is left, of any kind, is a lowering of the debts."""
    if type(left) is not list or not all(is_transfer(item) for item in left):
        return False
    amounts = {(debtor, creditor): amount for debtor, creditor, amount in debts}
    # So each pair is there once.
    if not is_ascending([(one, other) for one, other, _ in left]):
        return False
    if not all(amount <= amounts.get((one, other), 0) for one, other, amount in left):
        return False
    return balances(left) == balances(debts)


def parties_of(debts):
    """The ascending list of the parties of the debts."""
    return sorted(nets_of(debts))


def are_prices(debts, prices):
    """True if the prices, of any kind, are prices of the debts."""
    parties = parties_of(debts)
    if not is_tuple(prices, len(parties), len(parties)):
        return False
    if not all(is_tuple(item, 2, 2) and is_name(item[0]) and type(item[1]) is int for item in prices):
        return False
    return [party for party, _ in prices] == parties


def shows(debts, left, prices):
    """True if what is left, of any kind, is a lowering, and the prices, of any kind, show it."""
    if not is_lowering(debts, left) or not are_prices(debts, prices):
        return False
    amounts = {(debtor, creditor): amount for debtor, creditor, amount in left}
    price_of = {party: price for party, price in prices}
    for debtor, creditor, amount in debts:
        kept = amounts.get((debtor, creditor), 0)
        step = price_of[debtor] - price_of[creditor]
        if (kept > 0 and step < 1) or (kept < amount and step > 1):
            return False
    return True


def least_lowering(debts):
    """A least lowering, and prices that show it."""
    parties = parties_of(debts)
    places = {party: at for at, party in enumerate(parties)}
    standing = nets_of(debts)
    edges = [(places[debtor], places[creditor], amount) for debtor, creditor, amount in debts]
    # What is owed goes through the debts from those who owe in all to those to whom is owed in all, on short roads.
    network = Network([-standing[party] for party in parties], edges)
    network.fill()
    left = [(debtor, creditor, kept) for (debtor, creditor, _), kept in zip(debts, network.kept) if kept > 0]
    return left, tuple([(party, -distance) for party, distance in zip(parties, network.distances())])
