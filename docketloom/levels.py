"""Ladders, heads and allowances, asked of values of any kind."""

from docketloom.names import is_name, is_number, is_one_of, is_tuple

MOST_TERMS = 3
MOST_HEADS = 4
MOST_APPEALS = 2


def is_ladder(value):
    """True if the value, of any kind, is a ladder."""
    if not is_tuple(value, 3, 3) or not is_tuple(value[0], 1, MOST_TERMS):
        return False
    terms, answer, sends = value
    return all(is_name(word) for word in terms) and is_name(answer) and is_number(sends, 0, 1)


def is_heads(value):
    """True if the value, of any kind, is heads."""
    if not is_tuple(value, 1, MOST_HEADS):
        return False
    ahead = []
    for item in value:
        if not is_head(item, ahead):
            return False
        ahead.append(item[0])
    return True


def is_head(value, ahead):
    """True if the value, of any kind, is one of the heads, with the names of those ahead of it."""
    if not is_tuple(value, 3, 3):
        return False
    head, parent, named = value
    if not is_name(head) or head in ahead:
        return False
    if is_one_of(parent, ("",)):
        return is_number(named, 0, 0)
    return is_one_of(parent, ahead) and is_number(named, 0, 1)


def is_allowances(value):
    """True if the value, of any kind, is allowances."""
    return is_tuple(value, 2, 2) and all(is_number(item, 0, MOST_APPEALS) for item in value)


def top(ladder):
    """The top level."""
    return len(ladder[0])
