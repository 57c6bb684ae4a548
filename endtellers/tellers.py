"""Tellers: pairs of polynomials that tell means, or other sums of multiples, of the last numbers of endless rows."""

from endtellers.errors import InvalidNumbers, InvalidTeller
from endtellers.polynomials import is_polynomial, value_at
from endtellers.quotients import first_numbers, plain_pair, told_numbers, whole_pair, whole_product
from endtellers.ratios import NIL, ONE, check_fraction, check_whole, wrong_index
from endtellers.wholes import multiple, plus, times

MOST_WEIGHTS = 40


def is_teller(value):
    """Whether a value, whatever it is, is a teller."""
    if type(value) is not tuple or len(value) != 2:
        return False
    top, under = value
    return is_polynomial(top) and is_polynomial(under) and under[0] != NIL


def check_teller(value):
    """Refuse what is no teller."""
    if not is_teller(value):
        raise InvalidTeller(value)


def check_numbers(value):
    """Refuse what is no tuple of fractions."""
    if type(value) is not tuple:
        raise InvalidNumbers(None)
    index = wrong_index(value, None)
    if index is not None:
        raise InvalidNumbers(index)


def plain(teller):
    """The teller with the same quotient that has no common part, UNDER being 1 at 0."""
    check_teller(teller)
    tops, unders = whole_pair(teller)
    return plain_pair(tops, unders)


def are_alike(teller, other):
    """Whether both tell the same of all rows."""
    return plain(teller) == plain(other)


def is_fair(teller):
    """Whether TOP and UNDER of the plain form have the same number at 1, other than 0."""
    top, under = plain(teller)
    worth = value_at(top, ONE)
    return worth == value_at(under, ONE) and worth != NIL


def behind(teller, other):
    """The plain teller that tells what the one tells of what the other one tells."""
    check_teller(teller)
    check_teller(other)
    tops, unders = whole_product(teller, other)
    return plain_pair(tops, unders)


def mixed(teller, other, fraction):
    """The plain teller of the fraction of what the other one tells and the rest of the first; None for nought."""
    check_teller(teller)
    check_teller(other)
    check_fraction(fraction)
    tops, unders = whole_pair(teller)
    other_tops, other_unders = whole_pair(other)
    share, whole = fraction
    first = multiple(times(tops, other_unders), whole - share)
    both_tops = plus(first, multiple(times(other_tops, unders), share))
    if not both_tops:
        return None
    return plain_pair(both_tops, multiple(times(unders, other_unders), whole))


def told(teller, numbers):
    """What the teller tells of a row that begins with the numbers: as many."""
    check_teller(teller)
    check_numbers(numbers)
    return told_numbers(teller, numbers)


def weights_of(teller, number):
    """What the teller tells of the pulse 1, 0, 0, ..: the first so many weights."""
    check_teller(teller)
    check_whole(number, 0, MOST_WEIGHTS)
    return first_numbers(teller, number)
