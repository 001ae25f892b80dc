"""Values of every kind, and good values with one thing changed, for the functions that take any value."""


class Odd:
    """An object of no kind that the package knows."""


ODD = [
    True, False, None, 0, 1, -1, 2, 7, 10 ** 61, 1.0, 0.5, float("nan"), "", "a", "ann", "A", "one two", "a" * 17,
    "\u00e9", "\u0663", b"", b"ann", [], ["ann"], [0, 1], (), ("ann",), (0,), (0, 1), (1, 2, 3), ((),), ([],), {},
    {"a": 1}, {1: ()}, set(), {1}, frozenset((1, 2)), Odd(), Odd, len, range(3),
    (("a", "b"), ("c", "d")), (((((),),),),), ("all", "", 0, None, "rests"), 1 + 2j,
]


def mutants(value, odd=ODD):
    """The value with one part of it, at any depth, changed: replaced, left out, doubled, made a list."""
    yield from odd
    if isinstance(value, bool):
        yield int(value)
        yield not value
    elif isinstance(value, int):
        yield value + 1
        yield value - 1
        yield float(value)
        if value in (0, 1):
            yield bool(value)
    elif isinstance(value, str):
        yield value + "a"
        yield value.upper()
        yield value.encode()
        yield value + " "
        yield value + "\n"
    elif isinstance(value, tuple):
        yield list(value)
        yield value + (0,)
        yield value + value
        yield value[::-1]
        for at, item in enumerate(value):
            yield value[:at] + value[at + 1:]
            yield value[:at] + (item,) + value[at:]
            for other in mutants(item, odd):
                yield value[:at] + (other,) + value[at + 1:]


def is_plain(value):
    """True if the value is made of integers, texts, None and tuples alone."""
    if type(value) is tuple:
        return all(is_plain(item) for item in value)
    return value is None or type(value) in (int, str)


def same(one, other):
    """True if both are equal, and of the same kinds at every depth."""
    if type(one) is not type(other):
        return False
    if isinstance(one, (tuple, list)):
        return len(one) == len(other) and all(same(a, b) for a, b in zip(one, other))
    return one == other
