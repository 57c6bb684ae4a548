"""The checker: whether claims are so, and whether papers show it, whoever wrote them."""

from endtellers.discs import disc_counts
from endtellers.errors import EndError
from endtellers.keeping import keeps_ends
from endtellers.means import cesaro_order
from endtellers.moments import alternating_within, error_within, is_alternating_place, is_worst
from endtellers.ratios import NIL, ONE, check_whole, is_fraction, is_whole
from endtellers.rows import ONES, PULSE, end_of, is_nought, numbers_of, served_end
from endtellers.serving import serves_all
from endtellers.shanks import MOST_ORDER, check_numbers, ends_left, row_end, row_order, told_end
from endtellers.weights import check_kinds, do_tell, family_row, is_fraction_row, size_of_weights


def is_pair(value):
    """Whether a value, whatever it is, is a tuple of two."""
    return type(value) is tuple and len(value) == 2


def is_counts_so(claim, paper):
    """Whether the counts are those of the zeros."""
    _, polynomial, fraction, counts = claim
    if not is_nought(paper) or type(counts) is not tuple:
        return False
    return all([is_whole(count) for count in counts]) and disc_counts(polynomial, fraction) == counts


def is_keeping_so(claim, paper):
    """Whether the teller keeps ends."""
    return is_nought(paper) and keeps_ends(claim[1])


def is_straying_so(claim, paper):
    """Whether the paper is the word of a row of which the teller tells one that does not settle at its end."""
    if type(paper) is not str:
        return False
    if paper == "pulse":
        return served_end(claim[1], PULSE) != NIL
    return paper == "ones" and served_end(claim[1], ONES) != ONE


def is_serving_so(claim, paper):
    """Whether the teller serves all that the other one serves."""
    return is_nought(paper) and serves_all(claim[1], claim[2])


def is_lacking_so(claim, paper):
    """Whether the paper is a row, and an end, at which the other one serves it and the teller does not."""
    _, teller, other = claim
    if not is_pair(paper):
        return False
    row, end = paper
    return is_fraction(end) and served_end(other, row) == end and served_end(teller, row) != end


def is_end_so(claim, paper):
    """Whether the row settles at the fraction."""
    _, row, fraction = claim
    return is_nought(paper) and is_fraction(fraction) and end_of(row) == fraction


def is_endless_so(claim, paper):
    """Whether the row does not settle."""
    return is_nought(paper) and end_of(claim[1]) is None


def is_order_so(claim, paper):
    """Whether the order is the least one the means of which settle."""
    _, row, order = claim
    return is_nought(paper) and is_whole(order) and cesaro_order(row) == order


def is_meanless_so(claim, paper):
    """Whether the means of no order settle."""
    return is_nought(paper) and cesaro_order(claim[1]) is None


def is_within_so(claim, paper):
    """Whether the weights miss at most by so much for all moment rows."""
    _, weights, top, fraction = claim
    return is_nought(paper) and error_within(weights, top, fraction)


def is_beyond_so(claim, paper):
    """Whether the paper is a place at which the curve is beyond the fraction."""
    _, weights, top, fraction = claim
    return is_worst(weights, top, fraction, paper)


def is_alternating_within_so(claim, paper):
    """Whether the weights miss at most by so much for all alternating sums."""
    _, weights, fraction = claim
    return is_nought(paper) and alternating_within(weights, fraction)


def is_alternating_beyond_so(claim, paper):
    """Whether the paper is a place that shows that they miss some alternating sum by more."""
    _, weights, fraction = claim
    return is_alternating_place(weights, fraction, paper)


def is_telling_so(claim, paper):
    """Whether the paper is weights that tell the end."""
    _, number, kinds = claim
    return do_tell(number, kinds, paper)


def is_blind_so(claim, paper):
    """Whether the paper is multiples of the kinds with the sum of the row of ones."""
    _, number, kinds = claim
    check_kinds(number, kinds)
    return is_fraction_row(paper, len(kinds)) and family_row(number, kinds, NIL, paper) == (ONE,) * number


def is_least_so(claim, paper):
    """Whether the paper is weights that tell the end and a hiding row, the size and the end being the fraction."""
    _, number, kinds, fraction = claim
    if not is_fraction(fraction) or not is_pair(paper) or not is_pair(paper[1]):
        return False
    weights, (end, multiples) = paper
    if not do_tell(number, kinds, weights) or size_of_weights(weights) != fraction:
        return False
    if not is_fraction(end) or end != fraction or not is_fraction_row(multiples, len(kinds)):
        return False
    return all([abs(top) <= under for top, under in family_row(number, kinds, end, multiples)])


def is_one_end_so(claim, paper):
    """Whether just this end is left to rows of the order that begin with the numbers."""
    _, numbers, order, fraction = claim
    return is_nought(paper) and is_fraction(fraction) and told_end(numbers, order) == fraction


def is_no_end_so(claim, paper):
    """Whether no end is left to rows of the order that begin with the numbers."""
    _, numbers, order = claim
    return is_nought(paper) and ends_left(numbers, order) == "none"


def is_begun_so(row, numbers, order):
    """Whether the row is of the order and begins with the numbers."""
    if numbers_of(row, len(numbers)) != numbers:
        return False
    least = row_order(row)
    return least is not None and least <= order


def is_many_ends_so(claim, paper):
    """Whether the paper is two rows of the order with unlike ends that begin with the numbers."""
    _, numbers, order = claim
    check_numbers(numbers)
    check_whole(order, 0, MOST_ORDER)
    if not is_pair(paper):
        return False
    first, second = paper
    if not is_begun_so(first, numbers, order) or not is_begun_so(second, numbers, order):
        return False
    return row_end(first) != row_end(second)


# How many parts a claim has, its word counted.
PARTS = {
    "counts": 4, "keeps ends": 2, "strays": 2, "serves all": 3, "lacks": 3, "ends": 3, "endless": 2, "means": 3,
    "no means": 2, "within": 4, "beyond": 4, "alternating within": 3, "alternating beyond": 3, "telling": 3,
    "blind": 3, "least size": 4, "one end": 4, "no end": 3, "many ends": 3,
}

CHECKS = {
    "counts": is_counts_so, "keeps ends": is_keeping_so, "strays": is_straying_so, "serves all": is_serving_so,
    "lacks": is_lacking_so, "ends": is_end_so, "endless": is_endless_so, "means": is_order_so,
    "no means": is_meanless_so, "within": is_within_so, "beyond": is_beyond_so,
    "alternating within": is_alternating_within_so, "alternating beyond": is_alternating_beyond_so,
    "telling": is_telling_so, "blind": is_blind_so, "least size": is_least_so, "one end": is_one_end_so,
    "no end": is_no_end_so, "many ends": is_many_ends_so,
}


def is_worded(claim):
    """Whether a value, whatever it is, is a tuple of a word for the checker and as many parts as it asks for."""
    if type(claim) is not tuple or len(claim) == 0 or type(claim[0]) is not str:
        return False
    return claim[0] in PARTS and len(claim) == PARTS[claim[0]]


def accepts(claim, paper):
    """Whether the claim is one for the checker, and the paper one that shows it, whatever both are."""
    if not is_worded(claim):
        return False
    check = CHECKS[claim[0]]
    try:
        return check(claim, paper)
    except EndError:
        return False
