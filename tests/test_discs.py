"""Discs: point [7] and the heading of discs."""

import random
import unittest
from fractions import Fraction
from math import isqrt

from endtellers.discs import disc_counts, least_size, often_on
from endtellers.errors import InvalidFraction, InvalidNumber, InvalidPolynomial
from endtellers.polynomials import product
from tests.making import (
    NOT_ABOVE_NOUGHT, WRONG_FRACTIONS, WRONG_MANY, WRONG_POLYNOMIALS, made_of, numbers_of, pair, polynomial,
)

nil, half, one, two, less = (0, 1), (1, 2), (1, 1), (2, 1), (-1, 1)
GREAT = 10 ** 399

# Lehmer's polynomial: one zero beyond the circle, the opposite one within, all others on it.
LEHMER = polynomial(1, 1, 0, -1, -1, -1, -1, -1, 0, 1, 1)


def real(number):
    """The factor with this zero, and what is known of it: the square of its size, and a name."""
    number = Fraction(number)
    return [-number, 1], [(number ** 2, number)]


def unreal(middle, last):
    """The factor z z + middle z + last, with two zeros that are not real."""
    assert middle * middle < 4 * last
    return [last, middle, 1], [(last, (middle, last, 1)), (last, (middle, last, -1))]


def mirrored(factor, size):
    """The factor with the zeros that stand opposite beyond the circle of this size."""
    numbers, _ = factor
    if len(numbers) == 2:
        return real(size ** 2 / -numbers[0])
    last, middle, _ = numbers
    return unreal(middle * size ** 2 / last, size ** 4 / last)


def built(*factors):
    """The polynomial of the factors, and all its zeros."""
    return made_of(*[numbers for numbers, _ in factors]), [zero for _, zeros in factors for zero in zeros]


def counts(zeros, size):
    """The triple that is asked for."""
    squares = [square - size ** 2 for square, _ in zeros]
    return (sum(square < 0 for square in squares), squares.count(0), sum(square > 0 for square in squares))


def least(zeros, many):
    """The pair that is asked for."""
    square = min(square for square, _ in zeros) * many ** 2
    number = isqrt(int(square))
    return number, number ** 2 == square


def most_often(zeros, size):
    """The number that is asked for."""
    names = [name for square, name in zeros if square == size ** 2 and name != size]
    return max([names.count(name) for name in names], default=0)


def random_factor(source, size):
    """A factor, its zeros often on the circle of the size."""
    choice = source.randint(0, 3)
    if choice == 0:
        return real(source.choice([size, -size, 0]))
    if choice == 1:
        return real(Fraction(source.randint(-6, 6), source.randint(1, 6)))
    if choice == 2:
        return unreal(2 * size * Fraction(source.randint(-5, 5), 6), size ** 2)
    last = Fraction(source.randint(1, 9), source.randint(1, 9))
    middle = Fraction(source.randint(-9, 9), source.randint(1, 9))
    return unreal(middle if middle ** 2 < 4 * last else Fraction(0), last)


def random_factors(source, size):
    """Some factors, some of them more than once, some with what stands opposite."""
    factors = []
    for _ in range(source.randint(0, 4)):
        factor = random_factor(source, size)
        often = source.choice([1, 1, 2, 3, 4])
        factors += [factor] * often
        if factor[0][0] != 0 and source.randint(0, 2) == 0:
            factors += [mirrored(factor, size)] * source.choice([often, 1])
    return factors


class Examples(unittest.TestCase):
    def test_counts(self):
        self.assertEqual(disc_counts((one, nil, one), one), (0, 2, 0))
        self.assertEqual(disc_counts((two, (-5, 1), two), one), (1, 0, 1))
        self.assertEqual(disc_counts((nil, nil, one, one), one), (2, 1, 0))
        self.assertEqual(disc_counts((one,), half), (0, 0, 0))
        self.assertEqual(disc_counts((one, nil, one), two), (2, 0, 0))

    def test_sizes(self):
        self.assertEqual(least_size((two, one), 10), (20, True))
        self.assertEqual(least_size((one, nil, one), 3), (3, True))
        self.assertEqual(least_size((two, nil, one), 10), (14, False))
        self.assertEqual(least_size((nil, one), 5), (0, True))

    def test_often(self):
        self.assertEqual(often_on((one, two, one), one), 2)
        self.assertEqual(often_on((one, (-2, 1), one), one), 0)
        self.assertEqual(often_on((one, nil, two, nil, one), one), 2)


class DiscCounts(unittest.TestCase):
    def check(self, size, *factors):
        size = Fraction(size)
        value, zeros = built(*factors)
        self.assertEqual(disc_counts(value, pair(size)), counts(zeros, size))
        self.assertEqual(disc_counts(polynomial=value, fraction=pair(size)), counts(zeros, size))

    def test_degree_nought(self):
        for number in (one, less, half, (-GREAT, 3)):
            for size in (one, half, (1, GREAT), (GREAT, 1)):
                self.assertEqual(disc_counts((number,), size), (0, 0, 0))

    def test_one_zero(self):
        for zero in (0, 1, -1, Fraction(1, 2), Fraction(-1, 2), 3, -3, Fraction(GREAT, 7), Fraction(-1, GREAT)):
            for size in (Fraction(1, 2), 1, Fraction(2, 3), 3, Fraction(GREAT, 7), Fraction(1, GREAT)):
                self.check(size, real(zero))

    def test_zeros_at_nought_below_at_and_above(self):
        self.check(1, real(0), real(0), real(0))
        self.check(1, real(0), real(Fraction(1, 2)), real(1), real(-1), real(2))
        self.check(Fraction(3, 2), real(0), real(Fraction(3, 2)), real(Fraction(-3, 2)), real(2), real(1))
        self.check(Fraction(2, 7), unreal(0, Fraction(4, 49)), real(Fraction(2, 7)), real(1), unreal(1, 1))
        self.check(5, unreal(3, 25), unreal(-6, 25), real(-5), unreal(0, 26), unreal(0, 24))

    def test_zeros_that_come_more_than_once(self):
        for often in range(1, 5):
            for size in (Fraction(1, 2), 1, 2):
                self.check(size, *[real(1)] * often, *[real(-1)] * 2, *[real(2)] * 3, real(0))
                self.check(size, *[unreal(1, 1)] * often, *[unreal(-1, 4)] * 2, unreal(0, Fraction(1, 4)))
                self.check(size, *[real(Fraction(1, 2))] * often, *[real(2)] * often)

    def test_pairs_that_stand_opposite(self):
        for size in (Fraction(1), Fraction(3, 2), Fraction(1, 7)):
            for factor in (real(size / 3), real(-size / 2), unreal(size, size ** 2 * 2), unreal(0, size ** 2 / 9)):
                other = mirrored(factor, size)
                self.check(size, factor, other)
                self.check(size, factor, factor, other)
                self.check(size, factor, other, other, real(size))
                self.check(size, factor, other, real(-size), unreal(size, size ** 2), real(0))
                self.check(size, factor, factor, other, other, unreal(size, size ** 2), unreal(size, size ** 2))

    def test_the_same_and_the_opposite_read_from_the_end(self):
        same = [(2, -5, 2), (1, 3, 1), (1, 1, 1), (1, 0, 0, 1), (3, 7, 2, 7, 3), (1, -1, 5, -1, 1)]
        for numbers in same:
            self.assertEqual(numbers, numbers[::-1])
            below, on, above = disc_counts(polynomial(*numbers), one)
            self.assertEqual(below, above)
            self.assertEqual(below + on + above, len(numbers) - 1)
        self.assertEqual(disc_counts(polynomial(3, 7, 2, 7, 3), one), (1, 2, 1))
        self.assertEqual(disc_counts(polynomial(1, -1, 5, -1, 1), one), (2, 0, 2))
        self.assertEqual(disc_counts(polynomial(-1, 3, -3, 1), one), (0, 3, 0))
        self.assertEqual(disc_counts(polynomial(2, -7, 7, -2), one), (1, 1, 1))
        self.assertEqual(disc_counts(polynomial(-2, 5, 0, -5, 2), one), (1, 2, 1))

    def test_all_zeros_on_the_circle(self):
        for degree in range(1, 40):
            self.assertEqual(disc_counts(polynomial(*[1] * (degree + 1)), one), (0, degree, 0))
            self.assertEqual(disc_counts(polynomial(-1, *[0] * (degree - 1), 1), one), (0, degree, 0))
            self.assertEqual(disc_counts(polynomial(1, *[0] * (degree - 1), 1), one), (0, degree, 0))
        self.assertEqual(disc_counts(made_of(*[[1, 1]] * 9, *[[1, 0, 1]] * 4, *[[-1, 1]] * 5), one), (0, 22, 0))
        self.assertEqual(disc_counts(polynomial(5, 6, 5), one), (0, 2, 0))

    def test_known_ones(self):
        self.assertEqual(disc_counts(LEHMER, one), (1, 8, 1))
        self.assertEqual(disc_counts(product(LEHMER, LEHMER), one), (2, 16, 2))
        self.assertEqual(disc_counts(LEHMER, (17, 20)), (0, 0, 10))
        self.assertEqual(disc_counts(LEHMER, (851, 1000)), (1, 0, 9))
        self.assertEqual(disc_counts(LEHMER, (147, 125)), (9, 0, 1))
        self.assertEqual(disc_counts(LEHMER, (1177, 1000)), (10, 0, 0))
        # The least number of Pisot: the real zero of z z z - z - 1 alone is beyond the circle.
        self.assertEqual(disc_counts(polynomial(-1, -1, 0, 1), one), (2, 0, 1))
        # Rising numbers above 0 have all zeros within the circle.
        self.assertEqual(disc_counts(polynomial(*range(1, 41)), one), (39, 0, 0))
        self.assertEqual(disc_counts(polynomial(*range(40, 0, -1)), one), (0, 0, 39))
        # One number that outweighs all others parts the zeros.
        for place in range(9):
            numbers = [1, -1, 1, 1, -1, 1, -1, -1, 1]
            numbers[place] = 9
            self.assertEqual(disc_counts(polynomial(*numbers), one), (place, 0, 8 - place))

    def test_very_near_the_circle(self):
        tiny = Fraction(1, GREAT)
        self.check(1, real(1 + tiny), real(1 - tiny), real(-1 + tiny), real(-1))
        self.check(1, unreal(1, 1 + tiny), unreal(1, 1 - tiny), unreal(1, 1))

    def test_any_zeros(self):
        source = random.Random(71)
        for _ in range(500):
            size = Fraction(source.randint(1, 5), source.randint(1, 5))
            factors = random_factors(source, size)
            self.check(size, *factors)
            self.check(Fraction(source.randint(1, 9), source.randint(1, 9)), *factors)

    def test_the_sum_is_the_degree(self):
        source = random.Random(72)
        for _ in range(200):
            numbers = [Fraction(source.randint(-5, 5), source.randint(1, 5)) for _ in range(source.randint(1, 12))]
            value = polynomial(*numbers, source.choice([-2, Fraction(1, 3), 1]))
            found = disc_counts(value, (source.randint(1, 3), 1))
            self.assertEqual(sum(found), len(numbers))
            self.assertGreaterEqual(min(found), 0)

    def test_of_other_unknowns(self):
        source = random.Random(73)
        for _ in range(200):
            size = Fraction(source.randint(1, 5), source.randint(1, 5))
            value, zeros = built(*random_factors(source, size))
            found = disc_counts(value, pair(size))
            factor = Fraction(source.choice([1, -1]) * source.randint(1, 5), source.randint(1, 5))
            scaled = polynomial(*[number * factor ** at for at, number in enumerate(numbers_of(value))])
            self.assertEqual(disc_counts(scaled, pair(size / abs(factor))), found)
            if value[0] != nil:
                self.assertEqual(disc_counts(value[::-1], pair(1 / size)), found[::-1])
            multiple = polynomial(*[number * factor for number in numbers_of(value)])
            self.assertEqual(disc_counts(multiple, pair(size)), found)

    def test_all_degrees(self):
        for degree in (59, 60, 75):
            numbers = [(3 * at * at + 5) % 17 - 8 for at in range(degree)] + [1]
            value = polynomial(*numbers)
            found = disc_counts(value, one)
            self.assertEqual(sum(found), degree)
            more = disc_counts(product(value, value[::-1]), one)
            self.assertEqual(more, (found[0] + found[2], 2 * found[1], found[0] + found[2]))

    def test_refusals(self):
        for value in WRONG_POLYNOMIALS:
            for fraction in (one, nil, None):
                with self.assertRaises(InvalidPolynomial) as caught:
                    disc_counts(value, fraction)
                self.assertIs(caught.exception.given, value)
        for value in WRONG_FRACTIONS + NOT_ABOVE_NOUGHT:
            for given in ((one, one), (one,), (nil, one)):
                with self.assertRaises(InvalidFraction) as caught:
                    disc_counts(given, value)
                self.assertIs(caught.exception.given, value)
                with self.assertRaises(InvalidFraction) as caught:
                    disc_counts(fraction=value, polynomial=given)
                self.assertIs(caught.exception.given, value)


class LeastSize(unittest.TestCase):
    def check(self, many, *factors):
        value, zeros = built(*factors)
        self.assertEqual(least_size(value, many), least(zeros, many))
        self.assertEqual(least_size(polynomial=value, many=many), least(zeros, many))

    def test_degree_nought(self):
        for number in (one, less, half, (GREAT, 3)):
            self.assertIs(least_size((number,), 1), None)
            self.assertIs(least_size((number,), 1000), None)

    def test_a_zero_at_nought(self):
        for many in (1, 7, 1000):
            self.check(many, real(0))
            self.check(many, real(0), real(0), real(3))
            self.check(many, real(0), unreal(1, 1))

    def test_just_and_near(self):
        self.check(1, real(3))
        self.check(2, real(Fraction(7, 2)))
        self.check(3, real(Fraction(7, 2)))
        self.check(1000, real(Fraction(-1, 1000)))
        self.check(1000, real(Fraction(1, 1001)))
        self.check(999, real(Fraction(1, 1000)))
        self.check(1, real(Fraction(1, GREAT)))
        self.check(1000, real(Fraction(-999, 1000)), real(1))
        self.check(1, real(Fraction(999999, 1000)), real(1000))
        self.assertEqual(least_size(((-1, 1000), one), 1000), (1, True))
        self.assertEqual(least_size(((-1, 1001), one), 1000), (0, False))

    def test_no_fraction(self):
        for last in (2, 3, 5, Fraction(1, 2), Fraction(7, 3)):
            for many in (1, 2, 10, 100, 999, 1000):
                self.check(many, unreal(0, last))
                self.check(many, unreal(1, last))
                self.check(many, ([-last, 0, 1], [(last, 0), (last, 1)]))
        self.assertEqual(least_size(LEHMER, 1000), (850, False))
        self.assertEqual(least_size(LEHMER, 1), (0, False))
        self.assertEqual(least_size(polynomial(-1, -1, 0, 1), 1000), (868, False))
        self.assertEqual(least_size(polynomial(-1, -1, 1), 1000), (618, False))
        self.assertEqual(least_size(polynomial(-2, 0, 0, 1), 1000), (1259, False))

    def test_great_and_small_sizes(self):
        for size in (100, 300, Fraction(997, 2), 999):
            for many in (1, 2, 1000):
                self.check(many, real(size), real(-size - 1), unreal(0, Fraction(size) ** 2 + 2))
        self.check(1000, real(Fraction(GREAT, 3)), real(-GREAT))
        self.check(1000, unreal(1, GREAT ** 2 + 1))
        self.check(1000, real(GREAT), real(Fraction(1, 2)))
        self.check(1000, real(Fraction(1, 500)), *[real(700 + at) for at in range(12)])
        self.check(1, real(5), real(GREAT))

    def test_any_zeros(self):
        source = random.Random(74)
        for _ in range(200):
            factors = random_factors(source, Fraction(source.randint(1, 5), source.randint(1, 5)))
            if factors:
                self.check(source.choice([1, 2, 3, 10, 60, 999, 1000, source.randint(1, 1000)]), *factors)

    def test_refusals(self):
        for value in WRONG_POLYNOMIALS:
            for many in (1, 0, None):
                with self.assertRaises(InvalidPolynomial) as caught:
                    least_size(value, many)
                self.assertIs(caught.exception.given, value)
        for value in WRONG_MANY:
            for given in ((one, one), (one,), (nil, one)):
                with self.assertRaises(InvalidNumber) as caught:
                    least_size(given, value)
                self.assertIs(caught.exception.given, value)
                with self.assertRaises(InvalidNumber) as caught:
                    least_size(many=value, polynomial=given)
                self.assertIs(caught.exception.given, value)


class OftenOn(unittest.TestCase):
    def check(self, size, expected, *factors):
        size = Fraction(size)
        value, zeros = built(*factors)
        self.assertEqual(most_often(zeros, size), expected)
        self.assertEqual(often_on(value, pair(size)), expected)
        self.assertEqual(often_on(polynomial=value, fraction=pair(size)), expected)

    def test_none(self):
        self.assertEqual(often_on((one,), one), 0)
        self.check(1, 0, real(2), real(0), real(Fraction(1, 2)), unreal(0, 4))
        self.check(2, 0, unreal(0, 3), unreal(1, 5), real(1))
        self.check(1, 0, real(2), real(Fraction(1, 2)), unreal(0, 4), unreal(0, Fraction(1, 4)))

    def test_the_fraction_is_left_out_and_its_opposite_is_not(self):
        for size in (1, Fraction(2, 3), 7):
            for often in range(1, 5):
                self.check(size, 0, *[real(size)] * often)
                self.check(size, often, *[real(-size)] * often)
                self.check(size, 1, *[real(size)] * often, real(-size))
                self.check(size, 1, *[real(size)] * often, unreal(size, Fraction(size) ** 2))
                self.check(size, often, *[real(-size)] * often, *[real(size)] * 5, real(0))

    def test_up_to_four_times_beside_others(self):
        for size in (Fraction(1), Fraction(5, 4)):
            square = size ** 2
            for often in range(1, 5):
                most = [unreal(size, square)] * often
                self.check(size, often, *most)
                self.check(size, often, *most, real(-size), unreal(0, square))
                self.check(size, max(often, 2), *most, *[real(-size)] * 2, real(size), real(size / 2), real(2 * size))
                self.check(size, max(often, 3), *most, *[unreal(0, square)] * 3, *[unreal(0, 9 * square)] * 4)
                self.check(size, often, *most, *[real(3 * size)] * 5, *[real(size / 3)] * 5, *[real(0)] * 5)

    def test_a_zero_and_its_mirrored_one_are_two(self):
        self.check(1, 1, unreal(0, 1))
        self.check(1, 1, unreal(0, 1), unreal(1, 1), unreal(-1, 1), real(-1), real(1))

    def test_known_ones(self):
        self.assertEqual(often_on(LEHMER, one), 1)
        self.assertEqual(often_on(product(LEHMER, product(LEHMER, LEHMER)), one), 3)
        self.assertEqual(often_on(product(LEHMER, polynomial(-1, *[0] * 11, 1)), one), 1)
        self.assertEqual(often_on(product(polynomial(*[1] * 12), polynomial(*[1] * 8)), one), 2)
        self.assertEqual(often_on(LEHMER, half), 0)

    def test_any_zeros(self):
        source = random.Random(75)
        for _ in range(300):
            size = Fraction(source.randint(1, 5), source.randint(1, 5))
            value, zeros = built(*random_factors(source, size))
            self.assertEqual(often_on(value, pair(size)), most_often(zeros, size))

    def test_refusals(self):
        for value in WRONG_POLYNOMIALS:
            for fraction in (one, nil, None):
                with self.assertRaises(InvalidPolynomial) as caught:
                    often_on(value, fraction)
                self.assertIs(caught.exception.given, value)
        for value in WRONG_FRACTIONS + NOT_ABOVE_NOUGHT:
            for given in ((one, one), (one,), (nil, one)):
                with self.assertRaises(InvalidFraction) as caught:
                    often_on(given, value)
                self.assertIs(caught.exception.given, value)
                with self.assertRaises(InvalidFraction) as caught:
                    often_on(fraction=value, polynomial=given)
                self.assertIs(caught.exception.given, value)


class Bounds(unittest.TestCase):
    def test_right_arguments_at_the_bounds_are_let(self):
        for fraction in ((1, GREAT), (GREAT, 1), one):
            self.assertEqual(sum(disc_counts((one, one), fraction)), 1)
            self.assertIn(often_on((one, one), fraction), (0, 1))
        for many in (1, 1000):
            self.assertEqual(least_size((two, one), many), (2 * many, True))

    def test_kinds_of_results(self):
        found = disc_counts((two, (-5, 1), two), one)
        self.assertIs(type(found), tuple)
        self.assertEqual([type(number) for number in found], [int, int, int])
        for value in ((two, one), (two, nil, one), (nil, one)):
            number, just = least_size(value, 10)
            self.assertIs(type(least_size(value, 10)), tuple)
            self.assertIs(type(number), int)
            self.assertIs(type(just), bool)
        self.assertIs(type(often_on((one, one), one)), int)
        self.assertIs(type(often_on((one,), one)), int)

    def test_what_was_returned_may_be_passed(self):
        value = product((two, nil, one), ((GREAT, 1), (1, GREAT)))
        for _ in range(2):
            value = product(value, value)
        self.assertEqual(disc_counts(value, two), (8, 0, 4))
        self.assertEqual(least_size(value, 10), (14, False))
        self.assertEqual(often_on(value, (3, 2)), 0)

    def test_equal_calls_return_equal_results(self):
        for _ in range(2):
            self.assertEqual(disc_counts(LEHMER, one), (1, 8, 1))
            self.assertEqual(least_size(LEHMER, 10), (8, False))
            self.assertEqual(often_on(LEHMER, one), 1)


if __name__ == "__main__":
    unittest.main()
