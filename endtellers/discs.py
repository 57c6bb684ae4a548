"""How many zeros of polynomials are of which size; no zero is reckoned."""

from math import comb

from endtellers.circles import circle_counts, most_on_circle
from endtellers.polynomials import check_polynomial, cleared
from endtellers.ratios import check_fraction_above_nought, check_whole
from endtellers.wholes import primitive, spread

MOST_MANY = 1000


def shrunk(numbers, top, under):
    """A polynomial whose zeros are those of the numbers over top / under."""
    return primitive(spread(numbers, top, under))


def disc_counts(polynomial, fraction):
    """How many zeros have a size below, at and above the fraction."""
    check_polynomial(polynomial)
    check_fraction_above_nought(fraction)
    top, under = fraction
    return circle_counts(shrunk(cleared(polynomial)[0], top, under))


def is_free(polynomial, fraction):
    """Whether no zero has a size up to the fraction."""
    below, just, _ = disc_counts(polynomial, fraction)
    return below + just == 0


def number_above_least(numbers, many):
    """A whole number above many times the least size of a zero, and not much above it.

    Each number but the first is this one times a sum of products of so many reciprocals of zeros as its power tells,
    so the least size to this power is no greater than how many products there are, times the first over it.
    """
    degree = len(numbers) - 1
    doublings = []
    for power, number in enumerate(numbers):
        if power > 0 and number != 0:
            products = comb(degree, power) * numbers[0]
            doublings.append(-((number.bit_length() - 1 - products.bit_length()) // power))
    fewest = min(doublings)
    if fewest >= 0:
        return many << fewest
    return (many >> -fewest) + 1


def least_size(polynomial, many):
    """The pair (k, IS_JUST): the least size of a zero, near for the number many; None for a degree of 0."""
    check_polynomial(polynomial)
    check_whole(many, 1, MOST_MANY)
    numbers = cleared(polynomial)[0]
    if len(numbers) == 1:
        return None
    if numbers[0] == 0:
        return 0, True
    low, high = 0, number_above_least(numbers, many)
    while high - low > 1:
        middle = (low + high) // 2
        below, just, _ = circle_counts(shrunk(numbers, middle, many))
        if below > 0:
            high = middle
        elif just > 0:
            return middle, True
        else:
            low = middle
    return low, False


def often_on(polynomial, fraction):
    """How often that zero of this size, other than the fraction, comes that comes most often; 0 if there is none."""
    check_polynomial(polynomial)
    check_fraction_above_nought(fraction)
    top, under = fraction
    return most_on_circle(shrunk(cleared(polynomial)[0], top, under))
