"""Polynomials: tuples of one fraction or more, the lowest power first, the last one not 0."""

from math import lcm

from endtellers.errors import InvalidPolynomial
from endtellers.ratios import check_fraction, is_fraction, lowest
from endtellers.wholes import common_divisor, spread, times


def is_polynomial(value):
    """Whether a value, whatever it is, is a polynomial; () is none."""
    if type(value) is not tuple or len(value) == 0:
        return False
    return all(is_fraction(number) for number in value) and value[-1][0] != 0


def check_polynomial(value):
    """Refuse what is no polynomial."""
    if not is_polynomial(value):
        raise InvalidPolynomial(value)


def cleared(polynomial):
    """The whole numbers of the polynomial times its common denominator, and this denominator."""
    shared = 1
    for _, under in polynomial:
        shared = lcm(shared, under)
    return [top * (shared // under) for top, under in polynomial], shared


def divided(numbers, under):
    """The tuple of whole numbers, each divided by one whole number other than 0."""
    return tuple([lowest(number, under) for number in numbers])


def value_at(polynomial, fraction):
    """What the polynomial is at a fraction."""
    check_polynomial(polynomial)
    check_fraction(fraction)
    numbers, shared = cleared(polynomial)
    top, under = fraction
    for _ in polynomial[1:]:
        shared *= under
    return lowest(sum(spread(numbers, top, under)), shared)


def product(polynomial, other):
    """The product of two polynomials."""
    check_polynomial(polynomial)
    check_polynomial(other)
    numbers, shared = cleared(polynomial)
    others, shared_by_others = cleared(other)
    return divided(times(numbers, others), shared * shared_by_others)


def common_part(polynomial, other):
    """The polynomial of the greatest degree that divides both, its last number 1."""
    check_polynomial(polynomial)
    check_polynomial(other)
    found = common_divisor(cleared(polynomial)[0], cleared(other)[0])
    return divided(found, found[-1])
