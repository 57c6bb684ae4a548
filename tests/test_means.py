"""Means: points [15] to [17] and the heading of means."""

import random
import unittest
from fractions import Fraction
from math import comb

from endtellers.errors import InvalidFraction, InvalidNumber, InvalidRow
from endtellers.means import abel_end, cesaro_means, cesaro_order, euler_end, euler_row
from endtellers.rows import (
    end_of, is_row, numbers_of, plain_row, row_sum, row_times, served_end, settles_by, steps_of, sums_of,
)
from tests import making
from tests.making import GREAT_FRACTIONS, WRONG_FROM_NOUGHT, WRONG_ROWS, made_of, pair, polynomial, wrong_wholes
from tests.quotients import AT_LESS, AT_ONE, Quotient, random_quotient, random_shared
from tests.refusals import check_refused, given

nil, half, one, two, less = (0, 1), (1, 2), (1, 1), (2, 1), (-1, 1)
GREAT = 10 ** 399
turn, ones, pulse = ((one,), (one, one)), ((one,), (one, less)), ((one,), (one,))
near, climb = ((two, (-3, 2)), (one, (-3, 2), half)), ((one,), (one, (-2, 1), one))
wild, dear = ((one,), (one, two)), ((one,), (one, two, one))
NOUGHT = ((), (one,))
NOUGHTS = [NOUGHT, ((), (two,)), ((), (one, less)), ((), (one, two, one))]
ON_CIRCLE = [AT_LESS, (1, 0, 1), (1, 1, 1), (1, -1, 1), (1, Fraction(-6, 5), 1), (1, Fraction(1, 7), 1)]
BEYOND = [(-2, 1), (2, 1), (4, 1, 1), (Fraction(-3, 2), 1)]


def fractions_of(row, many=40):
    """The first numbers of a row as numbers."""
    return making.numbers_of(numbers_of(row, many))


def means_of_order(numbers, order):
    """The means that point [15] tells."""
    if order == 0:
        return numbers
    return [sum(comb(at - j + order - 1, order - 1) * numbers[j] for j in range(at + 1)) / comb(at + order, order)
            for at in range(len(numbers))]


def means_of_share(numbers, share):
    """The means that point [17] tells."""
    return [sum(comb(at, j) * share ** (at - j) * numbers[j] for j in range(at + 1)) / (1 + share) ** at
            for at in range(len(numbers))]


class CesaroMeans(unittest.TestCase):
    def check(self, row, order, number, expected):
        self.assertEqual(cesaro_means(row, order, number), expected)
        self.assertEqual(cesaro_means(number=number, order=order, row=row), expected)

    def test_by_hand(self):
        self.check(turn, 0, 2, (one, less))
        self.check(turn, 1, 4, (one, nil, (1, 3), nil))
        self.check(turn, 2, 3, (one, (1, 3), (1, 3)))
        self.check(climb, 1, 3, (one, (3, 2), two))
        self.check(climb, 2, 2, (one, (4, 3)))
        self.check(pulse, 1, 4, (one, half, (1, 3), (1, 4)))
        self.check(pulse, 8, 2, (one, (8, 9)))
        self.check(ones, 8, 3, (one, one, one))
        for order in range(9):
            self.check(near, order, 1, (two,))
            for row in NOUGHTS:
                self.check(row, order, 3, (nil, nil, nil))

    def test_each_order(self):
        source = random.Random(301)
        for _ in range(40):
            row = random_quotient(source).pair(*random_shared(source))
            numbers = fractions_of(row)
            order, number = source.randint(0, 8), source.randint(1, 40)
            expected = tuple(pair(mean) for mean in means_of_order(numbers, order))
            self.assertEqual(cesaro_means(row, order, 40), expected)
            self.check(row, order, number, expected[:number])

    def test_bounds(self):
        for order in (0, 8):
            for number in (1, 40):
                self.assertEqual(len(cesaro_means(near, order, number)), number)

    def test_they_come_near_the_end(self):
        # Of the order that is told, and of greater ones, the means come near the end; of lesser ones they do not.
        for factor in ON_CIRCLE:
            for often in (1, 2):
                row = Quotient(1, {factor: -often, AT_ONE: -1}).pair()
                order, end = cesaro_order(row), Fraction(*abel_end(row))
                self.assertEqual(order, often)
                distances = [max(abs(mean - end) for mean in making.numbers_of(cesaro_means(row, k, 40))[30:])
                             for k in range(order + 2)]
                self.assertLess(distances[order + 1], Fraction(2, 5))
                self.assertLess(distances[order], distances[order - 1])

    def test_refusals(self):
        wrongs = [given(InvalidRow, WRONG_ROWS), given(InvalidNumber, wrong_wholes(0, 8)),
                  given(InvalidNumber, wrong_wholes(1, 40))]
        for order, number in [(0, 1), (8, 40), (0, 40), (1, 1)]:
            check_refused(self, cesaro_means, ["row", "order", "number"], [turn, order, number], wrongs)


class CesaroOrderAndAbelEnd(unittest.TestCase):
    def check(self, row, order, end):
        for _ in range(2):
            self.assertEqual(cesaro_order(row), order)
            self.assertEqual(cesaro_order(row=row), order)
            self.assertEqual(abel_end(row), end)
            self.assertEqual(abel_end(row=row), end)

    def test_by_hand(self):
        self.check(near, 0, one)
        self.check(turn, 1, nil)
        self.check(dear, 2, nil)
        self.check(climb, None, None)
        self.check(wild, None, None)
        self.check(sums_of(turn), 1, half)
        self.check(sums_of(dear), 2, (1, 4))
        self.check(sums_of(sums_of(turn)), None, None)
        self.check(pulse, 0, nil)
        self.check(ones, 0, one)
        for row in NOUGHTS:
            self.check(row, 0, nil)

    def test_how_often_the_one_comes_that_comes_most_often(self):
        for factor in ON_CIRCLE:
            for often in range(1, 5):
                self.check(Quotient(3, {factor: -often}).pair(), often, nil)
                end = pair(Quotient(-3, {factor: -often}).worth(1))
                self.check(Quotient(3, {factor: -often, AT_ONE: -1}).pair(), often, end)
                self.check(Quotient(3, {factor: -often, AT_ONE: -2}).pair(), None, None)
                self.check(Quotient(3, {factor: -often, (Fraction(1, 2), 1): -1}).pair(), None, None)
                self.check(Quotient(3, {factor: -often, (2, 1): -often - 1}).pair(), often, nil)
        self.check(Quotient(1, {AT_LESS: -2, (1, 0, 1): -3, (1, 1, 1): -1}).pair(), 3, nil)

    def test_orders_above_eight(self):
        self.check(Quotient(1, {AT_LESS: -9}).pair(), 9, nil)
        self.check(Quotient(1, {(1, 0, 1): -12, AT_LESS: -3}).pair(), 12, nil)
        self.check(Quotient(1, {AT_LESS: -30, AT_ONE: -1}).pair(), 30, pair(Fraction(-1, 2 ** 30)))
        self.check(Quotient(1, {AT_LESS: -59}).pair(), 59, nil)

    def test_common_parts_are_no_matter(self):
        self.check((made_of([1, 1]), made_of([1, 1], [1, 1])), 1, nil)
        self.check((made_of([1, -1]), made_of([1, -1], [1, -1])), 0, one)
        self.check((made_of([1, -2]), made_of([1, -2], [1, 1])), 1, nil)
        self.check((made_of([1, -1], [1, 0, 1]), made_of([1, 0, 1], [1, 0, 1])), 1, nil)

    def test_near_the_circle(self):
        self.check((polynomial(1), polynomial(GREAT + 1, GREAT)), 0, nil)
        self.check((polynomial(1), polynomial(GREAT, GREAT + 1)), None, None)
        self.check((polynomial(1), polynomial(GREAT + 1, -GREAT)), 0, nil)
        self.check((polynomial(1), polynomial(GREAT, -GREAT - 1)), None, None)

    def test_any(self):
        source = random.Random(302)
        seen = []
        for _ in range(300):
            quotient = random_quotient(source, source.choice([None, ON_CIRCLE + BEYOND, ON_CIRCLE]))
            quotient = quotient.times(Quotient(1, {AT_ONE: -source.randint(0, 1)}))
            order, end = quotient.orders()
            seen.append(order)
            row = quotient.pair(*random_shared(source))
            self.check(row, order, end)
            self.assertEqual(end_of(row), end if order == 0 else None)
        self.assertGreater(min(seen.count(value) for value in (None, 0, 1, 2)), 20)

    def test_plain_means_are_a_teller_over_and_over(self):
        # The sums are settled by the teller (1 + z) / 2 as often as 1 + z comes: the end is the same.
        means = ((half, half), (one,))
        row = sums_of(turn)
        self.assertEqual(served_end(means, row), abel_end(row))
        self.assertEqual(abel_end(row_sum(row, ones)), (3, 2))

    def test_ends_of_sums_and_multiples(self):
        source = random.Random(303)
        for _ in range(60):
            first = random_quotient(source, ON_CIRCLE + BEYOND).times(Quotient(1, {AT_ONE: -1})).pair()
            second = random_quotient(source, ON_CIRCLE + BEYOND).pair()
            if abel_end(first) is None:
                continue
            total = Fraction(*abel_end(first)) + Fraction(*abel_end(second))
            self.assertEqual(abel_end(row_sum(first, second)), pair(total))
            self.assertEqual(abel_end(row_times(first, (-3, 2))), pair(Fraction(-3, 2) * Fraction(*abel_end(first))))
            self.assertEqual(abel_end(steps_of(first)), nil)

    def test_refusals(self):
        for call in (cesaro_order, abel_end):
            check_refused(self, call, ["row"], [near], [given(InvalidRow, WRONG_ROWS)])


class EulerRow(unittest.TestCase):
    def check(self, row, share):
        found = euler_row(row, pair(share))
        self.assertEqual(euler_row(fraction=pair(share), row=row), found)
        self.assertEqual(plain_row(found), found)
        self.assertEqual(fractions_of(found), means_of_share(fractions_of(row), share))
        self.assertEqual(euler_end(row, pair(share)), end_of(found))
        self.assertEqual(euler_end(fraction=pair(share), row=row), end_of(found))
        return found

    def test_by_hand(self):
        self.assertEqual(self.check(turn, Fraction(1)), pulse)
        self.assertEqual(self.check(wild, Fraction(1)), ((one,), (one, half)))
        self.assertEqual(self.check(near, Fraction(0)), near)
        self.assertEqual(self.check(ones, Fraction(7, 3)), ones)
        self.assertEqual(self.check(pulse, Fraction(1)), ((one,), (one, (-1, 2))))
        self.assertEqual(self.check(((nil, one), (one,)), Fraction(1)), ((nil, half), (one, less, (1, 4))))

    def test_share_nought_is_the_plain_row(self):
        source = random.Random(304)
        for _ in range(30):
            quotient = random_quotient(source)
            self.assertEqual(euler_row(quotient.pair(*random_shared(source)), nil), quotient.plain())

    def test_nought(self):
        for row in NOUGHTS:
            for share in (nil, half, one, (7, 2), (GREAT, 1)):
                self.assertEqual(euler_row(row, share), NOUGHT)
                self.assertEqual(euler_end(row, share), nil)

    def test_degrees(self):
        for share in (Fraction(0), Fraction(1, 3), Fraction(1), Fraction(5, 2)):
            self.check((polynomial(*range(1, 8)), (one, two)), share)
            self.check((polynomial(0, 0, 0, 3), (one,)), share)
            self.check(((two,), polynomial(*range(1, 8))), share)
            self.check((polynomial(1, 2, 3), polynomial(4, 5, 6)), share)

    def test_last_numbers_that_become_nought(self):
        # UNDER, or TOP, has the zero - 1 / q once or more often: so it loses as many degrees.
        for share in (Fraction(1), Fraction(2), Fraction(1, 2), Fraction(3, 5)):
            factor = [1, share]
            for often in (1, 2, 3):
                row = (polynomial(2), made_of(*[factor] * often))
                found = self.check(row, share)
                self.assertLessEqual(len(found[1]), 2)
                self.check((made_of(*[factor] * often), made_of([1, 0, 1])), share)
                self.check((made_of([3, 1], *[factor] * often), made_of([1, -1], [5, 1])), share)

    def test_any(self):
        source = random.Random(305)
        for _ in range(120):
            row = random_quotient(source).pair(*random_shared(source))
            self.check(row, Fraction(source.randint(0, 6), source.randint(1, 4)))

    def test_means_of_means(self):
        source = random.Random(306)
        for _ in range(60):
            row = random_quotient(source).pair()
            first, second = [Fraction(source.randint(0, 4), source.randint(1, 3)) for _ in range(2)]
            both = first + second + first * second
            self.assertEqual(euler_row(euler_row(row, pair(second)), pair(first)), euler_row(row, pair(both)))
            self.assertEqual(euler_row(euler_row(row, pair(first)), pair(second)), euler_row(row, pair(both)))

    def test_great_shares(self):
        for share in GREAT_FRACTIONS:
            found = euler_row(wild, share)
            self.assertEqual(numbers_of(found, 1), (one,))
            self.assertEqual(plain_row(found), found)
            number = Fraction(*share)
            self.assertEqual(fractions_of(found, 2)[1], (number - 2) / (1 + number))


class EulerEnd(unittest.TestCase):
    def test_by_hand(self):
        self.assertEqual(euler_end(wild, one), nil)
        self.assertIsNone(euler_end(wild, half))
        self.assertEqual(euler_end(wild, (501, 1000)), nil)
        self.assertEqual(euler_end(sums_of(turn), one), half)
        self.assertEqual(euler_end(near, nil), one)
        self.assertIsNone(euler_end(turn, nil))
        self.assertIsNone(euler_end(climb, (5, 1)))
        self.assertEqual(euler_end(turn, (1, GREAT)), nil)

    def test_powers(self):
        # Powers of a become those of (q + a) / (1 + q).
        for share in (Fraction(0), Fraction(1, 2), Fraction(1), Fraction(7, 3)):
            for number in [-1 - 2 * share, -1 - 2 * share - Fraction(1, GREAT), -1 - 2 * share + Fraction(1, GREAT),
                           Fraction(-1, 3), Fraction(1), Fraction(1) + Fraction(1, GREAT), -share]:
                row = (polynomial(1), polynomial(1, -number)) if number else pulse
                settles = -1 - 2 * share < number < 1
                expected = one if number == 1 else nil if settles else None
                self.assertEqual(euler_end(row, pair(share)), expected)

    def test_greater_shares_serve_what_lesser_ones_serve(self):
        source = random.Random(307)
        served = 0
        for _ in range(150):
            quotient = random_quotient(source).times(Quotient(1, {AT_ONE: -source.randint(0, 1)}))
            row = quotient.pair()
            shares = sorted(Fraction(source.randint(0, 9), source.randint(1, 3)) for _ in range(3))
            ends = [euler_end(row, pair(share)) for share in shares]
            for low, high in zip(ends, ends[1:]):
                if low is not None:
                    served += 1
                    self.assertEqual(low, high)
            if end_of(row) is not None:
                self.assertEqual(ends, [end_of(row)] * 3)
        self.assertGreater(served, 40)

    def test_what_a_lesser_share_does_not_serve(self):
        source = random.Random(308)
        for _ in range(40):
            low, high = sorted(Fraction(source.randint(0, 20), source.randint(1, 7)) for _ in range(2))
            if low == high:
                continue
            for number in (-1 - 2 * low, -1 - low - high):
                row = (polynomial(1), polynomial(1, -number))
                self.assertIsNone(euler_end(row, pair(low)))
                self.assertEqual(euler_end(row, pair(high)), nil)

    def test_ends_are_those_of_the_lesser_parts(self):
        # Beside 1 - z itself all other parts are led to nought or to nothing that settles.
        row = (polynomial(1), made_of([1, -1], [1, 2], [1, 0, 3]))
        self.assertEqual(euler_end(row, (4, 1)), pair(Fraction(1, 12)))
        self.assertIsNone(euler_end(row, half))
        self.assertEqual(settles_by(euler_row(row, (4, 1)), (99, 100)), True)

    def test_refusals(self):
        wrongs = [given(InvalidRow, WRONG_ROWS), given(InvalidFraction, WRONG_FROM_NOUGHT)]
        for call in (euler_row, euler_end):
            for fraction in (nil, half, (GREAT, 1)):
                check_refused(self, call, ["row", "fraction"], [near, fraction], wrongs)


class Conventions(unittest.TestCase):
    def test_what_was_returned_may_be_passed(self):
        long = (polynomial(*range(1, 50)), made_of([1, -1], [1, 1], list(range(50, 0, -1))))
        row = euler_row(long, half)
        self.assertIs(is_row(row), True)
        self.assertEqual(euler_end(row, half), abel_end(long))
        self.assertEqual(cesaro_order(long), 1)
        self.assertEqual(cesaro_order(euler_row(long, half)), 0)

    def test_ends_agree(self):
        source = random.Random(309)
        found = 0
        for _ in range(150):
            row = random_quotient(source, ON_CIRCLE + BEYOND).times(Quotient(1, {AT_ONE: -1})).pair()
            if abel_end(row) is not None:
                found += 1
                for share in (half, one, (3, 1)):
                    self.assertEqual(euler_end(row, share), abel_end(row))
        self.assertGreater(found, 60)


if __name__ == "__main__":
    unittest.main()
