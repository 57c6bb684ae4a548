"""Claims that are so, each with a paper that the checker accepts."""

from endtellers.discs import disc_counts
from endtellers.keeping import straying
from endtellers.means import cesaro_order
from endtellers.moments import alternating_place, worst_place
from endtellers.rows import end_of
from endtellers.serving import stray
from endtellers.shanks import ends_left, told_end, twin_ends
from endtellers.weights import blind_row, calmest, telling_weights


def certify_counts(polynomial, fraction):
    """How many zeros have a size below, at and above the fraction."""
    return ("counts", polynomial, fraction, disc_counts(polynomial, fraction)), ()


def certify_keeping(teller):
    """That the teller keeps ends, or that it strays."""
    word = straying(teller)
    if word is None:
        return ("keeps ends", teller), ()
    return ("strays", teller), word


def certify_serving(teller, other):
    """That the teller serves all that the other one serves, or that it lacks some."""
    found = stray(teller, other)
    if found is None:
        return ("serves all", teller, other), ()
    return ("lacks", teller, other), found


def certify_row(row):
    """At what the row ends, or that it is endless."""
    end = end_of(row)
    if end is None:
        return ("endless", row), ()
    return ("ends", row, end), ()


def certify_means(row):
    """The least order the means of which settle, or that there is none."""
    order = cesaro_order(row)
    if order is None:
        return ("no means", row), ()
    return ("means", row, order), ()


def certify_within(weights, top, fraction):
    """That for all moment rows the weights miss at most by so much, or a place at which they do not."""
    place = worst_place(weights, top, fraction)
    if place is None:
        return ("within", weights, top, fraction), ()
    return ("beyond", weights, top, fraction), place


def certify_alternating(weights, fraction):
    """That for all alternating sums the weights miss at most by so much, or a place at which they do not."""
    place = alternating_place(weights, fraction)
    if place is None:
        return ("alternating within", weights, fraction), ()
    return ("alternating beyond", weights, fraction), place


def certify_telling(number, kinds):
    """Weights that tell the end, or multiples that show that there are none."""
    found = telling_weights(number, kinds)
    if found is None:
        return ("blind", number, kinds), blind_row(number, kinds)
    return ("telling", number, kinds), found


def certify_size(number, kinds):
    """The least size of weights that tell the end, with such weights and a hiding row."""
    weights, size, multiples = calmest(number, kinds)
    return ("least size", number, kinds, size), (weights, (size, multiples))


def certify_ends(numbers, order):
    """Which end, or that no or many ends, are left to rows of the order that begin with the numbers."""
    word = ends_left(numbers, order)
    if word == "one":
        return ("one end", numbers, order, told_end(numbers, order)), ()
    if word == "none":
        return ("no end", numbers, order), ()
    return ("many ends", numbers, order), twin_ends(numbers, order)
