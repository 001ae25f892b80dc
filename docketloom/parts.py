"""Fractions, and the dealing of amounts."""

from math import gcd

from docketloom.errors import Malformed, NotThere, OutOfRange, Refused
from docketloom.names import is_figures, is_number, is_tuple

GREATEST = 10 ** 60
LONGEST_WRITING = 130


def is_fraction(value):
    """True if the value, of any kind, is a fraction within the bounds for what is handed in."""
    if not is_tuple(value, 2, 2):
        return False
    part, whole = value
    if not is_number(part, -GREATEST, GREATEST) or not is_number(whole, 1, GREATEST):
        return False
    return gcd(part, whole) == 1


def lowest(part, whole):
    """The fraction of part through whole in lowest terms; the whole is not 0."""
    common = gcd(part, whole)
    if whole < 0:
        common = -common
    return (part // common, whole // common)


def made(part, whole):
    """The fraction of part through whole in lowest terms."""
    if whole == 0:
        raise OutOfRange("the whole is 0")
    return lowest(part, whole)


def plus(one, other):
    """The sum of two fractions."""
    return lowest(one[0] * other[1] + other[0] * one[1], one[1] * other[1])


def minus(one, other):
    """The difference of two fractions."""
    return lowest(one[0] * other[1] - other[0] * one[1], one[1] * other[1])


def times(one, other):
    """The product of two fractions."""
    return lowest(one[0] * other[0], one[1] * other[1])


def through(one, other):
    """The quotient of two fractions."""
    if other[0] == 0:
        raise OutOfRange("division by nought")
    return lowest(one[0] * other[1], one[1] * other[0])


def less(one, other):
    """True if one is less than the other."""
    return one[0] * other[1] < other[0] * one[1]


def rounded(fraction, way):
    """The integer near the fraction, by the way down, up or near."""
    part, whole = fraction
    if way == "down":
        return part // whole
    if way == "up":
        return -(-part // whole)
    if way == "near":
        return nearest(part, whole)
    raise NotThere("no such way to round")


def nearest(part, whole):
    """The integer nearest to part through whole; of two that are equally near the even one."""
    low = part // whole
    rest = 2 * (part - low * whole)
    if rest > whole or (rest == whole and low % 2 == 1):
        return low + 1
    return low


def write(fraction):
    """The writing of a fraction."""
    part, whole = fraction
    if whole == 1:
        return str(part)
    return f"{part}/{whole}"


def read(text):
    """The fraction, within the bounds for what is handed in, whose writing the text is."""
    if len(text) > LONGEST_WRITING:
        raise Malformed("no writing of a fraction")
    part, slash, whole = text.partition("/")
    if slash == "":
        whole = "1"
    if not is_figures(part.removeprefix("-")) or not is_figures(whole):
        raise Malformed("no writing of a fraction")
    fraction = (int(part), int(whole))
    if not is_fraction(fraction) or write(fraction) != text:
        raise Malformed("no writing of a fraction")
    return fraction


def dealt(amount, weights):
    """The list of the shares of the weights, which come to the amount."""
    total = sum(weights)
    if total == 0:
        raise Refused("all weights are 0")
    shares = [amount * weight // total for weight in weights]
    rests = [amount * weight % total for weight in weights]
    missing = amount - sum(shares)
    order = sorted(range(len(rests)), key=lambda at: (-rests[at], at))
    for at in order[:missing]:
        shares[at] += 1
    return shares
