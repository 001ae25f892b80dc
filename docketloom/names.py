"""Names, numbers and tuples, asked of values of any kind."""

LETTERS = "abcdefghijklmnopqrstuvwxyz"
FIGURES = "0123456789"
LONGEST_NAME = 16


def is_name(value):
    """True if the value, of any kind, is a name."""
    if type(value) is not str or not 1 <= len(value) <= LONGEST_NAME:
        return False
    return all(sign in LETTERS for sign in value)


def is_number(value, least, most):
    """True if the value, of any kind, is an integer from least to most."""
    return type(value) is int and least <= value <= most


def is_tuple(value, least, most):
    """True if the value, of any kind, is a tuple with from least to most items."""
    return type(value) is tuple and least <= len(value) <= most


def is_one_of(value, texts):
    """True if the value, of any kind, is one of the texts."""
    return type(value) is str and value in texts


def is_ascending(values):
    """True if each value is greater than the one before it."""
    return all(values[at - 1] < values[at] for at in range(1, len(values)))


def is_names(value, least, most):
    """True if the value, of any kind, is an ascending tuple of from least to most different names."""
    if not is_tuple(value, least, most):
        return False
    return all(is_name(item) for item in value) and is_ascending(value)


def is_figures(text):
    """True if the text has figures, and nothing else."""
    return text != "" and all(sign in FIGURES for sign in text)


def is_same(value, told):
    """True if the value, of any kind, is the told one of numbers, texts, None and tuples and lists of these."""
    # A plain == would take True for 1, also inside of tuples.
    if not type(value) is type(told):
        return False
    if type(told) in (tuple, list):
        return len(value) == len(told) and all([is_same(item, other) for item, other in zip(value, told)])
    return value == told
