"""Fractions: pairs (n, m) of whole numbers without a common divisor above 1, m above 0."""

from math import gcd

from endtellers.errors import InvalidFraction, InvalidNumber

NIL = (0, 1)
ONE = (1, 1)


def is_whole(value):
    """Whether a value, whatever it is, is a whole number; True and False are none."""
    return type(value) is int


def check_whole(value, least, most):
    """Refuse what is no whole number from the least to the most."""
    if not is_whole(value) or not least <= value <= most:
        raise InvalidNumber(value)


def is_fraction(value):
    """Whether a value, whatever it is, is a fraction."""
    if type(value) is not tuple or len(value) != 2:
        return False
    top, under = value
    return is_whole(top) and is_whole(under) and under > 0 and gcd(top, under) == 1


def check_fraction(value):
    """Refuse what is no fraction."""
    if not is_fraction(value):
        raise InvalidFraction(value)


def check_fraction_above_nought(value):
    """Refuse what is no fraction above 0."""
    if not is_fraction(value) or value[0] <= 0:
        raise InvalidFraction(value)


def check_fraction_from_nought(value):
    """Refuse what is no fraction from 0 on."""
    if not is_fraction(value) or value[0] < 0:
        raise InvalidFraction(value)


def check_share(value):
    """Refuse what is no fraction above 0 and below 1."""
    if not is_fraction(value) or not 0 < value[0] < value[1]:
        raise InvalidFraction(value)


def wrong_index(values, most):
    """The index of the first value that is no fraction, or has so many before it; None if there is none."""
    for index, value in enumerate(values):
        if index == most or not is_fraction(value):
            return index
    return None


def lowest(top, under):
    """The fraction top / under, under not 0."""
    shared = gcd(top, under)
    if under < 0:
        shared = -shared
    return top // shared, under // shared
