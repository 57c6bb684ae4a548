"""How far off sums of weights are for all moments, and which weights are best."""

from endtellers.errors import InvalidWeights
from endtellers.polynomials import cleared, divided
from endtellers.ratios import (
    check_fraction_from_nought, check_share, check_whole, is_fraction, lowest, wrong_index,
)
from endtellers.stretches import place_below, scaled_worth
from endtellers.wholes import multiple, plus, powers, quotient, spread, times, worth_at

MOST_WEIGHTS = 9
MOST_NUMBER = 9


def check_weights(value):
    """Refuse what is no tuple of one fraction or more, up to the most."""
    if type(value) is not tuple or not 1 <= len(value) <= MOST_WEIGHTS:
        raise InvalidWeights(None)
    index = wrong_index(value, MOST_WEIGHTS)
    if index is not None:
        raise InvalidWeights(index)


def check_means(value):
    """Refuse what is no tuple of weights with the sum 1."""
    check_weights(value)
    numbers, shared = cleared(value)
    if sum(numbers) != shared:
        raise InvalidWeights(None)


def place_beyond(numbers, shared, fraction):
    """A pair (k, m), k from 0 to m: at k / m the numbers over the shared one are beyond the fraction; None."""
    bound, under = fraction
    for sign in (1, -1):
        place = place_below(plus([bound * shared], multiple(numbers, -sign * under)))
        if place is not None:
            return place
    return None


def is_beyond(numbers, shared, fraction, place):
    """Whether at a place, a fraction, the numbers over the shared one are beyond the fraction."""
    at, parts = place
    bound, under = fraction
    worth = scaled_worth(numbers, at, parts)
    return abs(worth) * under > bound * shared * powers(parts, len(numbers))[-1]


def error_within(weights, top, fraction):
    """Whether for all moment rows for the top the weights miss at most by so much of the mass."""
    return worst_place(weights, top, fraction) is None


def worst_place(weights, top, fraction):
    """A fraction from 0 to the top at which the curve is above the fraction or below its opposite; None."""
    check_means(weights)
    check_share(top)
    check_fraction_from_nought(fraction)
    numbers, shared = cleared(weights)
    length, whole = top
    scale = powers(whole, len(numbers))[-1]
    place = place_beyond(spread(numbers, length, whole), shared * scale, fraction)
    if place is None:
        return None
    at, parts = place
    return lowest(at * length, parts * whole)


def chebyshev(line, scale, degree):
    """Chebyshev's polynomial of the degree at the line over the scale, times the scale to this power."""
    now, coming = [1], line
    for _ in range(degree):
        now, coming = coming, plus(multiple(times(line, coming), 2), multiple(now, -scale * scale))
    return now


def best_weights(number, top):
    """The so many weights that miss least for all moment rows for the top."""
    check_whole(number, 1, MOST_NUMBER)
    check_share(top)
    length, whole = top
    found = chebyshev([-length, 2 * whole], length, number - 1)
    return divided(found, sum(found))


def least_error(number, top):
    """By how much of the mass the best so many weights miss at most."""
    check_whole(number, 1, MOST_NUMBER)
    check_share(top)
    length, whole = top
    found = chebyshev([-length, 2 * whole], length, number - 1)
    return lowest(powers(length, number)[-1], sum(found))


def is_worst(weights, top, fraction, place):
    """Whether a value, whatever it is, is a fraction from 0 to the top at which the curve is beyond the fraction."""
    check_means(weights)
    check_share(top)
    check_fraction_from_nought(fraction)
    if not is_fraction(place) or place[0] < 0 or place[0] * top[1] > top[0] * place[1]:
        return False
    numbers, shared = cleared(weights)
    return is_beyond(numbers, shared, fraction, place)


def alternating_curve(weights):
    """The whole numbers of 1 - (1 + t) times the curve of the weights, and what they are over."""
    numbers, shared = cleared(weights)
    return plus([shared], multiple(times([1, 1], numbers), -1)), shared


def alternating_within(weights, fraction):
    """Whether for all alternating sums the weights miss at most by so much of the sum."""
    return alternating_place(weights, fraction) is None


def alternating_place(weights, fraction):
    """A fraction from 0 to 1 at which 1 - (1 + t) times the curve is beyond the fraction; None."""
    check_weights(weights)
    check_fraction_from_nought(fraction)
    numbers, shared = alternating_curve(weights)
    place = place_beyond(numbers, shared, fraction)
    if place is None:
        return None
    at, parts = place
    return lowest(at, parts)


def is_alternating_place(weights, fraction, place):
    """Whether a value, whatever it is, is a fraction from 0 to 1 at which 1 - (1 + t) times the curve is beyond."""
    check_weights(weights)
    check_fraction_from_nought(fraction)
    if not is_fraction(place) or not 0 <= place[0] <= place[1]:
        return False
    numbers, shared = alternating_curve(weights)
    return is_beyond(numbers, shared, fraction, place)


def best_alternating(number):
    """The so many weights that miss least for all alternating sums."""
    check_whole(number, 1, MOST_NUMBER)
    found = chebyshev([1, -2], 1, number)
    worth = worth_at(found, -1)
    return divided(quotient(plus([worth], multiple(found, -1)), [1, 1]), worth)


def least_alternating(number):
    """By how much of the sum the best so many weights miss at most."""
    check_whole(number, 1, MOST_NUMBER)
    return lowest(1, worth_at(chebyshev([1, -2], 1, number), -1))
