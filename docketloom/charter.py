"""Charters of offices, and the deeds that offices do, asked of values of any kind."""

from docketloom.benches import SLOTS, is_bench, is_window
from docketloom.coins import MOST_MONEY, is_money
from docketloom.days import is_day
from docketloom.fees import is_fee_book
from docketloom.kinds import is_deed, is_entry_number
from docketloom.levels import is_allowances, is_heads, is_ladder
from docketloom.names import is_name, is_names, is_number, is_one_of, is_tuple
from docketloom.regimes import is_regimes
from docketloom.rulebook import is_rule_book
from docketloom.service import DEEDS, is_manner, is_powers
from docketloom.shifting import MOST_HEADS, is_rule
from docketloom.wheels import is_wheel

MOST_BARRED = 6
GREATEST_DRAW = 10 ** 18
# How many parts the deeds have.
OFFICE_LENGTHS = {
    "pass": 2, "begin": 7, "file": 5, "leave": 6, "stay": 5, "lift": 3, "strike": 2, "amend": 3, "event": 5, "heads": 5,
    "judge": 4, "appeal": 3, "send": 3, "expense": 5, "hearing": 6, "unlist": 3,
}
# The deeds that are entries held for a day of their own.
HELD = ("begin", "file", "leave", "stay", "lift")
CORRECTING = ("strike", "amend")
MOVES = ("judge", "appeal", "send")


def is_charter(value):
    """True if the value, of any kind, is a charter."""
    if not is_tuple(value, 9, 9):
        return False
    book, regimes, manner, powers, ladder, fees, rule, wheel, bench = value
    if not is_rule_book(book) or not is_regimes(regimes) or not is_manner(manner) or not is_powers(powers):
        return False
    if not is_ladder(ladder) or not is_fee_book(fees) or not is_rule(rule):
        return False
    if not is_wheel(wheel) or not is_bench(bench):
        return False
    words = [word for _, word, _ in book[0]] + list(ladder[0]) + [ladder[1]]
    if not all([has_rules(regime, words) for _, regime in regimes[1]]):
        return False
    judges = [judge[0] for judge in bench[0]]
    return all([judge in judges for judge, _ in wheel])


def has_rules(regime, words):
    """True if the regime has rules for all words."""
    told = [word for word, _ in regime[1]]
    return all([word in told for word in words])


def is_office_deed(value):
    """True if the value, of any kind, is a deed of an office."""
    if type(value) is not tuple or len(value) == 0 or type(value[0]) is not str:
        return False
    word = value[0]
    if OFFICE_LENGTHS.get(word) != len(value):
        return False
    if word in CORRECTING:
        return is_deed(value)
    if word in HELD:
        return is_held(value)
    if word in ("pass", "hearing", "unlist"):
        return is_day(value[1]) and is_daily(value)
    if word == "event":
        return is_entry_number(value[1]) and is_name(value[2]) and is_one_of(value[3], DEEDS) and is_name(value[4])
    return is_name(value[1]) and is_of_cause(value)


def is_held(value):
    """True if the tuple, with as many parts as its word asks for, is a deed that is entered for a day of its own."""
    word, held = value[:2]
    if not is_day(held):
        return False
    if word != "begin":
        return is_deed((word,) + value[2:])
    _, _, cause, parties, worth, barred, draw = value
    if not is_deed((word, cause, parties)) or not is_money(worth):
        return False
    return is_names(barred, 0, MOST_BARRED) and is_number(draw, 0, GREATEST_DRAW)


def is_daily(value):
    """True if the tuple, with as many parts as its word asks for, is a pass, hearing or unlist, but for its day."""
    if value[0] == "pass":
        return True
    if value[0] == "unlist":
        return is_name(value[2])
    _, _, cause, length, first, behind = value
    return is_hearing(cause, length, first, behind)


def is_hearing(cause, length, first, behind):
    """True if the values, of any kind, are the parts of a hearing of a cause."""
    return is_name(cause) and is_number(length, 1, SLOTS) and is_window(first, behind)


def is_of_cause(value):
    """True if the tuple, with as many parts as its word asks for, is a deed to a cause, but for the cause's name."""
    if value[0] == "heads":
        _, _, heads, sides, allowances = value
        return is_heads(heads) and are_sides(sides) and is_allowances(allowances)
    if value[0] == "expense":
        _, _, party, amount, heads = value
        return is_name(party) and is_number(amount, 1, MOST_MONEY) and is_names(heads, 1, MOST_HEADS)
    if value[0] == "judge" and not is_number(value[3], 0, 1):
        return False
    return is_name(value[2])


def are_sides(value):
    """True if the value, of any kind, is a pair of two different parties."""
    return is_tuple(value, 2, 2) and is_name(value[0]) and is_name(value[1]) and value[0] != value[1]
