"""Means of the numbers of rows by recurrences: those of an order, of Abel, and of a share."""

from math import comb

from endtellers.discs import disc_counts, often_on
from endtellers.polynomials import cleared
from endtellers.quotients import whole_pair
from endtellers.ratios import ONE, check_fraction_from_nought, check_whole, lowest
from endtellers.rows import check_row, end_at_one, end_of, numbers_of, row_of
from endtellers.wholes import multiple, plus, times, trimmed

MOST_ORDER = 8


def running_sums(numbers):
    """The sums of the first number, of the first two, and so on."""
    out = []
    total = 0
    for number in numbers:
        total += number
        out.append(total)
    return out


def cesaro_means(row, order, number):
    """So many first means of this order of the row."""
    check_row(row)
    check_whole(order, 0, MOST_ORDER)
    sums, shared = cleared(numbers_of(row, number))
    for _ in range(order):
        sums = running_sums(sums)
    return tuple([lowest(total, shared * comb(at + order, order)) for at, total in enumerate(sums)])


def order_and_end(row):
    """The least order the means of which settle, and their end; None for both if there is none."""
    end, under = end_at_one(row)
    if end is None or disc_counts(under, ONE)[0] > 0:
        return None, None
    return often_on(under, ONE), end


def cesaro_order(row):
    """The least order the means of which settle; None if there is none."""
    return order_and_end(row)[0]


def abel_end(row):
    """To what 1 - z times the row's series comes as z, below 1, comes to 1; None if there is no such end."""
    return order_and_end(row)[1]


def led_by_share(numbers, degree, top, under):
    """The sum of each number times (under z)^i (top + under - top z)^(degree - i), i being its power.

    It is the polynomial at z / (1 + q - q z), q being top / under, times what leaves whole numbers.
    """
    out, power = [], [1]
    line = trimmed([top + under, -top])
    for at in range(degree, -1, -1):
        number = numbers[at] if at < len(numbers) else 0
        out = plus(times(out, [0, under]), multiple(power, number))
        power = times(power, line)
    return out


def euler_row(row, fraction):
    """The plain row of the means of this share of the row."""
    check_row(row)
    check_fraction_from_nought(fraction)
    tops, unders = whole_pair(row)
    top, under = fraction
    degree = max(len(tops), len(unders)) - 1
    led_tops = multiple(led_by_share(tops, degree, top, under), top + under)
    led_unders = times(led_by_share(unders, degree, top, under), trimmed([top + under, -top]))
    return row_of(led_tops, led_unders)


def euler_end(row, fraction):
    """At what the means of this share of the row settle; None if they do not."""
    return end_of(euler_row(row, fraction))
