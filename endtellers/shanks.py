"""Rows of an order: which ends first numbers leave to them, the cells of Shanks, and orders and ends of rows."""

from endtellers.equations import eliminated, unknowns
from endtellers.errors import InvalidNumber, InvalidNumbers
from endtellers.polynomials import cleared
from endtellers.ratios import NIL, check_whole, is_whole, lowest, wrong_index
from endtellers.rows import ONES, end_at_one, row_of, row_sum, row_times
from endtellers.wholes import times, trimmed

MOST_NUMBERS = 13
MOST_ORDER = 5

WORDS = ("none", "one", "many")


def check_numbers(value):
    """Refuse what is no tuple of one fraction or more, up to the most."""
    if type(value) is not tuple or len(value) == 0:
        raise InvalidNumbers(None)
    index = wrong_index(value, MOST_NUMBERS)
    if index is not None:
        raise InvalidNumbers(index)


def sums_to_one(order):
    """The equation that the sum of a_0, .., a_order is 1, beside an end of any size."""
    return [1] * (order + 1) + [0, 1]


def sums_to_end(numbers, order, at):
    """The equation that the sum of each a_j times the number at at + j is the end."""
    return numbers[at:at + order + 1] + [-1, 0]


def cell_of(numbers, shared, order, index):
    """The cell of whole numbers over the shared one; None if it is not there."""
    table = [sums_to_end(numbers, order, at) for at in range(index, index + order + 1)]
    table, held, scale = eliminated([sums_to_one(order)] + table, order + 2)
    if None in held:
        return None
    end = unknowns(table, held, scale, [0] * (order + 2))[-1]
    return lowest(end[0], end[1] * shared)


def cell(numbers, order, index):
    """The cell of the order at the index; None if it is not there."""
    check_numbers(numbers)
    if not is_whole(order) or not 0 <= 2 * order < len(numbers):
        raise InvalidNumber(order)
    if not is_whole(index) or not 0 <= index < len(numbers) - 2 * order:
        raise InvalidNumber(index)
    wholes, shared = cleared(numbers)
    return cell_of(wholes, shared, order, index)


def shanks_table(numbers):
    """For each order from 0 on the cells at all indexes, None for those that are not there."""
    check_numbers(numbers)
    wholes, shared = cleared(numbers)
    out = []
    for order in range((len(numbers) + 1) // 2):
        many = len(numbers) - 2 * order
        out.append(tuple([cell_of(wholes, shared, order, index) for index in range(many)]))
    return tuple(out)


def choices(numbers, order):
    """Up to two choices of a_0, .., a_order and an end for whole numbers, with unlike ends, as rows of the order ask.

    The a_j have the sum 1, and a_order is not 0. What is done for this order is enough: a row of a lesser one has the
    same a_j behind noughts. If no equation tells the end, a_order is 0 for all ends, for one end alone, or for none;
    so beside one end with which it is not 0 there is one more among any three.
    """
    table = [sums_to_one(order)] + [sums_to_end(numbers, order, at) for at in range(len(numbers) - order)]
    table, held, scale = eliminated(table, order + 2)
    out = []
    for wish in range(3):
        found = unknowns(table, held, scale, [0] * order + [1, wish])
        if found is not None and found[order][0] != 0 and len(out) < 2:
            if not out or out[0][-1] != found[-1]:
                out.append(found)
    return out


def choices_for(numbers, order):
    """Up to two choices for numbers and an order that are asked for, the ends as they are."""
    check_numbers(numbers)
    check_whole(order, 0, MOST_ORDER)
    wholes, shared = cleared(numbers)
    found = choices(wholes, order)
    return [(choice[:-1], lowest(choice[-1][0], choice[-1][1] * shared)) for choice in found]


def ends_left(numbers, order):
    """How many ends are left to rows of the order that begin with the numbers: none, one or many, as a text."""
    return WORDS[len(choices_for(numbers, order))]


def told_end(numbers, order):
    """The one end that is left to rows of the order that begin with the numbers; None if it is not just one."""
    found = choices_for(numbers, order)
    return found[0][1] if len(found) == 1 else None


def row_made(numbers, factors, end):
    """The plain row that begins with the numbers and has the end, its numbers less this told by the factors a_j."""
    unders, _ = cleared(factors[::-1])
    first = numbers[:len(factors) - 1]
    wholes, shared = cleared(first + (NIL,) * (len(factors) - 1 - len(first)))
    lesser = [number * end[1] - end[0] * shared for number in wholes]
    tops = trimmed(times(lesser, unders)[:len(lesser)])
    left = row_of(tops, trimmed([number * shared * end[1] for number in unders]))
    return row_sum(left, row_times(ONES, end))


def twin_ends(numbers, order):
    """Two rows of the order that begin with the numbers and have unlike ends; None if not many ends are left."""
    found = choices_for(numbers, order)
    if len(found) < 2:
        return None
    return tuple([row_made(numbers, factors, end) for factors, end in found])


def row_order(row):
    """The least order of the row; None if it is of none."""
    end, _ = end_at_one(row)
    if end is None:
        return None
    top, under = row_sum(row, row_times(ONES, (-end[0], end[1])))
    return max(len(under) - 1, len(top)) if top else 0


def row_end(row):
    """The end of the row, whether it settles or not; None if it is of no order."""
    return end_at_one(row)[0]
