"""Rows by recurrences: pairs (TOP, UNDER), their numbers those of the series TOP / UNDER; TOP may be (), nought."""

from endtellers.discs import disc_counts, is_free, often_on
from endtellers.errors import InvalidRow
from endtellers.polynomials import cleared, divided, is_polynomial, value_at
from endtellers.quotients import first_numbers, plain_pair, whole_pair, whole_product
from endtellers.ratios import NIL, ONE, check_fraction, check_share, check_whole, lowest
from endtellers.tellers import check_teller
from endtellers.wholes import multiple, often_divided, plus, quotient, times, trimmed

MOST_NUMBERS = 40

# The rows 1, 0, 0, .. and 1, 1, 1, ..
PULSE = (((1, 1),), ((1, 1),))
ONES = (((1, 1),), ((1, 1), (-1, 1)))


def is_nought(value):
    """Whether a value, whatever it is, is ()."""
    return type(value) is tuple and len(value) == 0


def is_row(value):
    """Whether a value, whatever it is, is a row."""
    if type(value) is not tuple or len(value) != 2:
        return False
    top, under = value
    return (is_nought(top) or is_polynomial(top)) and is_polynomial(under) and under[0] != NIL


def check_row(value):
    """Refuse what is no row."""
    if not is_row(value):
        raise InvalidRow(value)


def row_of(tops, unders):
    """The plain row of the quotient of two polynomials of whole numbers, the first one nought or not."""
    if not tops:
        return (), (ONE,)
    return plain_pair(tops, unders)


def plain_row(row):
    """The row with the same numbers that has no common part, UNDER being 1 at 0."""
    check_row(row)
    tops, unders = whole_pair(row)
    return row_of(tops, unders)


def numbers_of(row, number):
    """So many first numbers of the row."""
    check_row(row)
    check_whole(number, 1, MOST_NUMBERS)
    return first_numbers(row, number)


def are_same_rows(row, other):
    """Whether both have the same numbers for ever."""
    return plain_row(row) == plain_row(other)


def row_sum(row, other):
    """The plain row of the sums of the numbers of both."""
    check_row(row)
    check_row(other)
    tops, unders = whole_pair(row)
    other_tops, other_unders = whole_pair(other)
    return row_of(plus(times(tops, other_unders), times(other_tops, unders)), times(unders, other_unders))


def row_times(row, fraction):
    """The plain row of the row's numbers, each times the fraction."""
    check_row(row)
    check_fraction(fraction)
    tops, unders = whole_pair(row)
    factor, under = fraction
    return row_of(trimmed(multiple(tops, factor)), multiple(unders, under))


def led_row(teller, row):
    """The plain row that the teller tells of the row."""
    check_teller(teller)
    check_row(row)
    tops, unders = whole_product(teller, row)
    return row_of(tops, unders)


def sums_of(row):
    """The plain row of the sums of the first number, of the first two, and so on."""
    check_row(row)
    tops, unders = whole_pair(row)
    return row_of(tops, times(unders, [1, -1]))


def steps_of(row):
    """The plain row of the first number, and of each further one less the one before it."""
    check_row(row)
    tops, unders = whole_pair(row)
    return row_of(times(tops, [1, -1]), unders)


def end_at_one(row):
    """What 1 - z times the row is at 1, None if 1 is a further zero of UNDER; and UNDER without a single zero at 1.

    UNDER is that of the plain form.
    """
    top, under = plain_row(row)
    if value_at(under, ONE) != NIL:
        return NIL, under
    tops, unders = whole_pair((top, under))
    rest = quotient(unders, [1, -1])
    if sum(rest) == 0:
        return None, divided(rest, 1)
    return lowest(sum(tops), sum(rest)), divided(rest, 1)


def end_of(row):
    """At what the row settles; None if it does not."""
    end, under = end_at_one(row)
    if end is None or not is_free(under, ONE):
        return None
    return end


def settles_by(row, fraction):
    """Whether the row settles by this share."""
    check_row(row)
    check_share(fraction)
    end, under = end_at_one(row)
    share, whole = fraction
    if end is None or disc_counts(under, (whole, share))[0] > 0:
        return False
    # often_on leaves out the zero whole / share itself, which counts here, too.
    often = often_divided(cleared(under)[0], [-whole, share])
    return max(often, often_on(under, (whole, share))) <= 1


def served_end(teller, row):
    """At what the row settles that the teller tells of the row; None if that does not settle."""
    return end_of(led_row(teller, row))
