"""Fractions and polynomials: point [6] and the heading of polynomials."""

import random
import unittest
from fractions import Fraction

from endtellers.errors import InvalidFraction, InvalidPolynomial
from endtellers.polynomials import common_part, is_polynomial, product, value_at
from tests.making import (
    NOTHING, WRONG_FRACTIONS, WRONG_POLYNOMIALS, made_of, multiplied, numbers_of, pair, polynomial,
)

nil, half, one, two, less = (0, 1), (1, 2), (1, 1), (2, 1), (-1, 1)
GREAT = 10 ** 399


def random_numbers(source, most):
    """Some fractions, the last one not 0."""
    numbers = [Fraction(source.randint(-9, 9), source.randint(1, 9)) for _ in range(source.randint(0, most))]
    return numbers + [Fraction(source.choice([1, -1]) * source.randint(1, 9), source.randint(1, 9))]


class Examples(unittest.TestCase):
    def test_heading(self):
        self.assertIs(is_polynomial((one, two)), True)
        self.assertIs(is_polynomial(()), False)
        self.assertIs(is_polynomial((one, nil)), False)
        self.assertEqual(value_at((one, two), half), (2, 1))
        self.assertEqual(product((one, one), (one, less)), ((1, 1), (0, 1), (-1, 1)))
        self.assertEqual(common_part((less, nil, one), (one, one)), ((1, 1), (1, 1)))
        self.assertEqual(common_part((one,), (nil, two)), ((1, 1),))


class IsPolynomial(unittest.TestCase):
    def test_what_is_one(self):
        right = [
            (one,), (less,), (half, half), (nil, one), (nil, nil, (-3, 7)), (one, nil, one), ((GREAT, 1),),
            ((1, GREAT), (-GREAT, GREAT + 1)), tuple([nil] * 59 + [one]), tuple([half] * 60), ((10 ** 5000, 3),),
        ]
        for value in right:
            self.assertIs(is_polynomial(value), True)
            self.assertIs(is_polynomial(value=value), True)

    def test_what_is_none(self):
        for value in WRONG_POLYNOMIALS + NOTHING:
            self.assertIs(is_polynomial(value), False, value)
            self.assertIs(is_polynomial(value=value), False)

    def test_no_wrong_fraction_stands_anywhere(self):
        for value in WRONG_FRACTIONS:
            for given in ((value,), (value, one), (one, value), (one, value, one)):
                self.assertIs(is_polynomial(given), False)

    def test_the_last_is_not_nought(self):
        self.assertIs(is_polynomial((nil,)), False)
        self.assertIs(is_polynomial((one, two, nil)), False)
        self.assertIs(is_polynomial((nil, two, nil, one)), True)


class ValueAt(unittest.TestCase):
    def test_by_hand(self):
        self.assertEqual(value_at((half, nil, (1, 3)), (3, 2)), (5, 4))
        self.assertEqual(value_at((one, (-5, 6), (1, 6)), (2, 1)), (0, 1))
        self.assertEqual(value_at((one, (-5, 6), (1, 6)), (3, 1)), (0, 1))
        self.assertEqual(value_at((half,), (17, 19)), (1, 2))
        self.assertEqual(value_at((one, one), (-3, 1)), (-2, 1))

    def test_at_nought_it_is_the_first_number(self):
        for value in [(half,), (nil, one), ((-7, 3), two, half), ((GREAT, 7), one)]:
            self.assertEqual(value_at(value, nil), value[0])

    def test_in_lowest_terms_of_any_numbers(self):
        source = random.Random(6)
        for _ in range(300):
            numbers = random_numbers(source, 6)
            at = Fraction(source.randint(-9, 9), source.randint(1, 9))
            expected = sum(number * at ** power for power, number in enumerate(numbers))
            self.assertEqual(value_at(polynomial(*numbers), pair(at)), pair(expected))
            self.assertEqual(value_at(polynomial=polynomial(*numbers), fraction=pair(at)), pair(expected))

    def test_great_numbers(self):
        self.assertEqual(value_at((one, one), (GREAT, 1)), (GREAT + 1, 1))
        self.assertEqual(value_at(((1, GREAT), (1, GREAT - 1)), (-1, GREAT)), pair(
            Fraction(1, GREAT) - Fraction(1, GREAT * (GREAT - 1))))
        self.assertEqual(value_at(tuple([one] * 60), (GREAT, 1)), (sum(GREAT ** power for power in range(60)), 1))
        self.assertEqual(value_at(((-GREAT, 1), (GREAT, 1)), one), (0, 1))

    def test_refusals(self):
        for value in WRONG_POLYNOMIALS:
            for fraction in (one, None, (2, 2)):
                with self.assertRaises(InvalidPolynomial) as caught:
                    value_at(value, fraction)
                self.assertIs(caught.exception.given, value)
        for value in WRONG_FRACTIONS:
            with self.assertRaises(InvalidFraction) as caught:
                value_at((one, one), value)
            self.assertIs(caught.exception.given, value)
            with self.assertRaises(InvalidFraction) as caught:
                value_at(fraction=value, polynomial=(one, one))
            self.assertIs(caught.exception.given, value)


class Product(unittest.TestCase):
    def test_by_hand(self):
        self.assertEqual(product((half, half), (two, two)), ((1, 1), (2, 1), (1, 1)))
        self.assertEqual(product(((2, 3),), ((3, 2),)), ((1, 1),))
        self.assertEqual(product((nil, one), (nil, nil, half)), ((0, 1), (0, 1), (0, 1), (1, 2)))
        self.assertEqual(product((one, one, one), (one, less)), ((1, 1), (0, 1), (0, 1), (-1, 1)))

    def test_any_numbers_in_either_order(self):
        source = random.Random(7)
        for _ in range(200):
            first, second = random_numbers(source, 6), random_numbers(source, 6)
            expected = made_of(first, second)
            self.assertEqual(product(polynomial(*first), polynomial(*second)), expected)
            self.assertEqual(product(other=polynomial(*first), polynomial=polynomial(*second)), expected)

    def test_great_numbers(self):
        found = product(((GREAT, 1), (1, GREAT)), ((1, GREAT), (-GREAT, 1)))
        self.assertEqual(found, made_of([GREAT, Fraction(1, GREAT)], [Fraction(1, GREAT), -GREAT]))
        long = tuple([one] * 60)
        squares = product(long, long)
        self.assertEqual(squares, tuple((min(at + 1, 119 - at), 1) for at in range(119)))
        self.assertEqual(value_at(product(squares, squares), one), (60 ** 4, 1))

    def test_refusals(self):
        for value in WRONG_POLYNOMIALS:
            for other in ((one,), None, ()):
                with self.assertRaises(InvalidPolynomial) as caught:
                    product(value, other)
                self.assertIs(caught.exception.given, value)
            with self.assertRaises(InvalidPolynomial) as caught:
                product((one,), value)
            self.assertIs(caught.exception.given, value)
            with self.assertRaises(InvalidPolynomial) as caught:
                product(other=value, polynomial=(one,))
            self.assertIs(caught.exception.given, value)


class CommonPart(unittest.TestCase):
    def check(self, first, second, expected):
        self.assertEqual(common_part(first, second), expected)
        self.assertEqual(common_part(second, first), expected)
        self.assertEqual(common_part(polynomial=first, other=second), expected)
        self.assertEqual(common_part(other=first, polynomial=second), expected)

    def test_numbers(self):
        self.check((half,), ((-3, 7),), (one,))
        self.check((two,), (two,), (one,))
        self.check(((6, 1),), ((4, 1), (2, 1)), (one,))

    def test_powers(self):
        self.check((nil, nil, two), (nil, nil, nil, (-1, 3)), (nil, nil, one))
        self.check((nil, nil, one), (nil, one, one), (nil, one))
        self.check((nil, nil, one), (one, one), (one,))
        self.check((nil, half), (nil, half), (nil, one))

    def test_by_hand(self):
        self.check(polynomial(6, -5, 1), polynomial(-2, 1), polynomial(-2, 1))
        self.check(polynomial(6, -5, 1), polynomial(2, -3, 1), polynomial(-2, 1))
        self.check(polynomial(1, 0, 1), polynomial(1, 0, 0, 0, -1), polynomial(1, 0, 1))
        self.check(polynomial(2, 0, 1), polynomial(2, 0, -1), (one,))
        self.check(polynomial(1, 2), polynomial(2, 4), polynomial(Fraction(1, 2), 1))
        self.check(polynomial(-1, 0, 1), polynomial(1, -2, 1), polynomial(-1, 1))

    def test_worths_with_common_divisors(self):
        # Common divisors of the worths that no common part explains must not deceive.
        self.check(polynomial(0, 1, 1), polynomial(2, 1, 1), (one,))
        self.check(polynomial(0, -1, 0, 0, 0, 0, 0, 1), polynomial(42, -1, 0, 0, 0, 0, 0, 1), (one,))
        self.check(polynomial(0, 1, 1), polynomial(0, 2, 3, 1), polynomial(0, 1, 1))
        self.check(polynomial(-4096, 1), polynomial(-8192, 1), (one,))
        self.check(polynomial(-8192, 1), polynomial(0, -8192, 1), polynomial(-8192, 1))
        for power in range(1, 40):
            self.check(polynomial(0, 1), polynomial(2 ** power, 1), (one,))
            self.check(polynomial(0, 1, 1), polynomial(2 ** power, 2 ** power + 1, 1), polynomial(1, 1))

    def test_zeros_that_come_more_than_once(self):
        first, second, third = [Fraction(1, 2), 1], [-3, 1], [5, 1, 2]
        for one_often in range(4):
            for other_often in range(4):
                found = common_part(made_of(*[first] * one_often, *[second] * 3, third),
                                    made_of(*[first] * other_often, *[second] * 2, [1, 7]))
                expected = multiplied(*[first] * min(one_often, other_often), *[second] * 2)
                self.assertEqual(found, polynomial(*expected))

    def test_with_itself_and_its_products(self):
        source = random.Random(8)
        for _ in range(100):
            first, second = random_numbers(source, 6), random_numbers(source, 5)
            whole = polynomial(*first)
            leading = polynomial(*[number / first[-1] for number in first])
            self.check(whole, whole, leading)
            self.check(whole, made_of(first, second), leading)
            self.check(whole, made_of(first, first, second), leading)

    def test_common_part_of_products_whose_other_parts_have_none(self):
        source = random.Random(9)
        for _ in range(100):
            shared, first = random_numbers(source, 5), random_numbers(source, 4)
            # This one is 1 wherever the first is 0.
            second = multiplied(first, random_numbers(source, 3))
            second[0] += 1
            expected = polynomial(*[number / shared[-1] for number in shared])
            if len(second) > 1 and second[-1] != 0:
                self.check(made_of(shared, first), made_of(shared, second), expected)

    def test_great_numbers_and_degrees(self):
        first, second = [Fraction(GREAT, 7), 1, Fraction(GREAT - 1)], [1, Fraction(1, GREAT)]
        leading = polynomial(*[number / first[-1] for number in first])
        self.check(made_of(first, second), made_of(first, [GREAT, -3]), leading)
        self.check(polynomial(*[1] * 60), polynomial(*[1] * 24), polynomial(*[1] * 12))
        self.check(polynomial(*[1] * 60), polynomial(*[1] * 59), (one,))
        self.check(polynomial(*range(1, 61)), polynomial(*range(61, 1, -1)), (one,))

    def test_divides_both(self):
        source = random.Random(10)
        for _ in range(50):
            shared = random_numbers(source, 4)
            found = common_part(made_of(shared, random_numbers(source, 3)), made_of(shared, random_numbers(source, 3)))
            self.assertEqual(found[-1], one)
            self.assertTrue(is_polynomial(found))
            self.assertGreaterEqual(len(found), len(shared))
            self.assertEqual(len(common_part(found, polynomial(*shared))), len(shared))

    def test_refusals(self):
        for value in WRONG_POLYNOMIALS:
            for other in ((one,), None, ()):
                with self.assertRaises(InvalidPolynomial) as caught:
                    common_part(value, other)
                self.assertIs(caught.exception.given, value)
            with self.assertRaises(InvalidPolynomial) as caught:
                common_part((one,), value)
            self.assertIs(caught.exception.given, value)
            with self.assertRaises(InvalidPolynomial) as caught:
                common_part(other=value, polynomial=(one,))
            self.assertIs(caught.exception.given, value)


class Conventions(unittest.TestCase):
    def test_equal_calls_return_equal_results(self):
        first, second = made_of([1, 2], [3, 4]), made_of([1, 2], [half[0], 5])
        for call in (product, common_part):
            self.assertEqual(call(first, second), call(tuple(list(first)), tuple(list(second))))
        self.assertEqual(value_at(first, half), value_at(first, half))

    def test_results_are_tuples_of_pairs_of_whole_numbers(self):
        found = [product((half, half), (two, one)), common_part((half, half), (two, two))]
        for value in found + [(value_at((half,), half),)]:
            self.assertIs(type(value), tuple)
            for fraction in value:
                self.assertIs(type(fraction), tuple)
                self.assertEqual([type(number) for number in fraction], [int, int])

    def test_what_was_returned_may_be_passed(self):
        value = ((GREAT, 3), (1, GREAT), (7, 5))
        for _ in range(3):
            value = product(value, value)
        self.assertTrue(is_polynomial(value))
        self.assertEqual(len(common_part(value, value)), 17)
        self.assertEqual(value_at(value, value_at(value, half))[1] > 0, True)
        self.assertEqual(numbers_of(value)[0], Fraction(GREAT, 3) ** 8)


if __name__ == "__main__":
    unittest.main()
