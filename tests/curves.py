"""Curves whose greatest sizes on a stretch are known: the places at which they turn are chosen."""

from fractions import Fraction

from tests.making import multiplied, pair
from tests.quotients import worth


def integral(numbers):
    """The numbers of the polynomial without a number at 0 that has these as its derivative."""
    return [Fraction(0)] + [Fraction(number) / (at + 1) for at, number in enumerate(numbers)]


def curve_turning(places, factor, at):
    """The numbers of a curve that is 1 at the number and turns, or stands still, at the places alone."""
    rising = integral(multiplied(*[[-place, 1] for place in places]))
    numbers = [factor * number for number in rising]
    numbers[0] += 1 - worth(numbers, at)
    return numbers


def greatest_size(numbers, places, top):
    """The greatest size of such a curve from 0 to the top."""
    tried = [Fraction(0), Fraction(top)] + [place for place in places if 0 <= place <= top]
    return max(abs(worth(numbers, place)) for place in tried)


def tuple_of(numbers):
    """The tuple of pairs of numbers, noughts at its end too."""
    return tuple(pair(number) for number in numbers)
