"""Quotients of two polynomials of whole numbers, the lower one not 0 at 0: what tellers and rows are."""

from endtellers.polynomials import cleared, divided
from endtellers.ratios import NIL, ONE, lowest
from endtellers.wholes import common_divisor, multiple, powers, quotient, times


def whole_pair(pair):
    """Two polynomials of whole numbers with the quotient that the two of the pair have."""
    tops, shared = cleared(pair[0])
    unders, shared_by_unders = cleared(pair[1])
    return multiple(tops, shared_by_unders), multiple(unders, shared)


def plain_pair(tops, unders):
    """The plain form of a quotient: a pair without a common part, its lower polynomial 1 at 0."""
    part = common_divisor(tops, unders)
    tops, unders = quotient(tops, part), quotient(unders, part)
    return divided(tops, unders[0]), divided(unders, unders[0])


def whole_product(pair, other):
    """Two polynomials of whole numbers with the quotient that is the product of those of both pairs."""
    tops, unders = whole_pair(pair)
    other_tops, other_unders = whole_pair(other)
    return times(tops, other_tops), times(unders, other_unders)


def reach(factors, numbers, at):
    """The sum of the factors, each times the number that stands so many places ahead of the one at the place."""
    return sum([factor * numbers[at - back] for back, factor in enumerate(factors[:at + 1])])


def scaled_series(tops, unders, numbers):
    """What a quotient tells of whole numbers, the one at n times unders[0] to the power n + 1: so they stay whole."""
    ups = powers(unders[0], len(numbers))
    lags = [number * up for number, up in zip(unders[1:], ups)]
    out = []
    for at, up in enumerate(ups):
        out.append(up * reach(tops, numbers, at) - reach(lags, out, at - 1))
    return out


def told_numbers(pair, numbers):
    """What the quotient of a pair, nought over a polynomial too, tells of a row that begins with the numbers."""
    tops, shared = cleared(pair[0])
    unders, factor = cleared(pair[1])
    given, shared_by_given = cleared(numbers)
    shared *= shared_by_given
    out = []
    for number in scaled_series(tops, unders, given):
        shared *= unders[0]
        out.append(lowest(number * factor, shared))
    return tuple(out)


def first_numbers(pair, number):
    """So many first numbers of the quotient's series: what it tells of the pulse."""
    return told_numbers(pair, tuple([ONE if at == 0 else NIL for at in range(number)]))
