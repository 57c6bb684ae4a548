"""The whole program: points [1] to [5], and that what one module tells agrees with what the others tell."""

import random
import unittest
from fractions import Fraction

from endtellers.certificates import certify_means, certify_row
from endtellers.checker import accepts
from endtellers.discs import disc_counts, often_on
from endtellers.keeping import keeps_ends, keeps_settling, straying
from endtellers.means import abel_end, cesaro_means, cesaro_order, euler_end, euler_row
from endtellers.moments import best_weights, error_within
from endtellers.polynomials import product
from endtellers.rows import (
    ONES, PULSE, are_same_rows, end_of, led_row, numbers_of as first_numbers, plain_row, row_sum, row_times,
    served_end, settles_by, steps_of, sums_of,
)
from endtellers.serving import both, either, serves_all, stray
from endtellers.shanks import cell, ends_left, row_end, row_order, shanks_table, told_end, twin_ends
from endtellers.tellers import behind, is_fair, mixed, plain, told, weights_of
from endtellers.weights import (
    calm_weights, calmest_size, do_tell, hiding_row, richardson, size_of_weights, step_kinds, telling_weights,
)
from tests.listed import LISTED
from tests.making import numbers_of, pair
from tests.quotients import AT_LESS, AT_ONE, Quotient, random_fair, random_quotient, random_shared
from tests.test_weights import random_kinds

nil, half, one, two, less = (0, 1), (1, 2), (1, 1), (2, 1), (-1, 1)


def random_row(source):
    """A row with a single pole at 1 or none, in some form."""
    quotient = random_quotient(source).times(Quotient(1, {AT_ONE: -source.randint(0, 1)}))
    return quotient.pair(*random_shared(source))


class Rows(unittest.TestCase):
    def test_ends(self):
        source = random.Random(901)
        seen = []
        for _ in range(150):
            row = random_row(source)
            end = end_of(row)
            self.assertEqual(end is not None, cesaro_order(row) == 0)
            self.assertEqual(cesaro_order(row) is None, abel_end(row) is None)
            self.assertEqual(end_of(euler_row(row, nil)), end)
            self.assertEqual(served_end(plain(((one,), (one,))), row), end)
            self.assertEqual(settles_by(row, (10 ** 60, 10 ** 60 + 1)), end is not None)
            if end is not None:
                self.assertEqual([abel_end(row), row_end(row), euler_end(row, (3, 2))], [end] * 3)
            elif abel_end(row) is not None:
                self.assertEqual([row_end(row), euler_end(row, (1, 7))], [abel_end(row)] * 2)
            seen.append((end is None, abel_end(row) is None))
            self.assertIs(accepts(("endless", row), ()), end is None)
            self.assertIs(accepts(("no means", row), ()), abel_end(row) is None)
            self.assertIs(accepts(*certify_row(row)) and accepts(*certify_means(row)), True)
        self.assertEqual(len(set(seen)), 3)

    def test_means_are_the_ends_of_tellers(self):
        # (1 + z) / 2 as often as 1 + z comes leads the row to its Abel end.
        for often in range(1, 6):
            row = Quotient(-5, {AT_LESS: -often, AT_ONE: -1, (-2, 1): -1}).pair()
            teller = ((one,), (one,))
            for passed in range(often):
                self.assertIsNone(served_end(teller, row))
                self.assertEqual(cesaro_order(row), often)
                teller = behind(teller, ((half, half), (one,)))
            self.assertEqual(served_end(teller, row), abel_end(row))
            self.assertEqual(often_on(row[1], one), often)

    def test_what_tellers_tell(self):
        source = random.Random(902)
        for _ in range(60):
            teller, row = random_quotient(source).pair(*random_shared(source)), random_row(source)
            self.assertEqual(first_numbers(led_row(teller, row), 20), told(teller, first_numbers(row, 20)))
            self.assertEqual(first_numbers(led_row(teller, PULSE), 20), weights_of(teller, 20))
            self.assertEqual(led_row(teller, PULSE), plain(teller))
            self.assertEqual(keeps_settling(teller), end_of(led_row(teller, PULSE)) == nil)
            self.assertEqual(keeps_ends(teller), served_end(teller, PULSE) == nil and served_end(teller, ONES) == one)
            if end_of(row) is not None and keeps_ends(teller):
                self.assertEqual(served_end(teller, row), end_of(row))
            word = straying(teller)
            self.assertEqual(word == "pulse", served_end(teller, PULSE) != nil)
            self.assertIs(word is None or served_end(teller, ONES) != one, True)

    def test_mixtures(self):
        source = random.Random(903)
        for _ in range(40):
            first, second, row = random_quotient(source).pair(), random_quotient(source).pair(), random_row(source)
            teller = mixed(first, second, (1, 3))
            if teller is not None:
                parts = [row_times(led_row(first, row), (2, 3)), row_times(led_row(second, row), (1, 3))]
                self.assertIs(are_same_rows(led_row(teller, row), row_sum(*parts)), True)

    def test_serving(self):
        source = random.Random(904)
        seen = []
        for _ in range(60):
            first, second = random_fair(source).pair(), random_fair(source).pair()
            row = random_row(source)
            ends = [served_end(first, row), served_end(second, row)]
            if None not in ends:
                self.assertEqual(ends[0], ends[1])
                self.assertEqual(served_end(both(first, second), row), ends[0])
            if served_end(both(first, second), row) is not None:
                self.assertEqual(ends, [served_end(both(first, second), row)] * 2)
            for end in ends:
                if end is not None:
                    self.assertEqual(served_end(either(first, second), row), end)
            seen.append(serves_all(first, second))
            if seen[-1] and ends[1] is not None:
                self.assertEqual(ends[0], ends[1])
            shown = stray(first, second)
            if shown is not None:
                self.assertEqual(end_of(led_row(second, shown[0])), shown[1])
                self.assertNotEqual(end_of(led_row(first, shown[0])), shown[1])
        self.assertGreater(min(seen.count(True), seen.count(False)), 5)

    def test_orders(self):
        source = random.Random(905)
        compared = 0
        for _ in range(60):
            row = random_quotient(source, most=1).times(Quotient(1, {AT_ONE: -source.randint(0, 1)})).pair()
            order = row_order(row)
            self.assertEqual(order is None, row_end(row) is None)
            if order is not None and order <= 5:
                compared += 1
                numbers = first_numbers(row, 13)
                self.assertEqual(told_end(numbers, order), row_end(row))
                self.assertEqual(cell(numbers, order, 0), row_end(row))
                self.assertEqual(shanks_table(numbers)[order][0], row_end(row))
                self.assertIs(accepts(("one end", numbers, order, row_end(row)), ()), True)
                self.assertEqual(ends_left(numbers[:order], order) if order else "many", "many")
                if order:
                    for other in twin_ends(numbers[:2 * order - 1], order):
                        self.assertEqual(first_numbers(other, 2 * order - 1), numbers[:2 * order - 1])
        self.assertGreater(compared, 30)

    def test_sums(self):
        source = random.Random(906)
        for _ in range(60):
            row = random_row(source)
            self.assertEqual(plain_row(row), sums_of(steps_of(row)))
            self.assertEqual(plain_row(row), steps_of(sums_of(row)))
            if abel_end(row) is not None:
                # Where the row has an Abel end its steps have the end 0, and so do its sums at most.
                self.assertEqual(abel_end(steps_of(row)), nil)
            means_of_one = cesaro_means(row, 1, 12)
            expected = [Fraction(*total) / (at + 1) for at, total in enumerate(first_numbers(sums_of(row), 12))]
            self.assertEqual(means_of_one, tuple(pair(number) for number in expected))

    def test_zeros(self):
        source = random.Random(907)
        for _ in range(60):
            row = plain_row(random_row(source))
            counts = disc_counts(row[1], one)
            if counts[0] == 0 and counts[1] == 0:
                self.assertEqual(end_of(row), nil)
                self.assertIs(keeps_settling(row) if row[0] else True, True)
            if counts[0] > 0:
                self.assertIsNone(cesaro_order(row))
            twice = (row[0], product(row[1], row[1]))
            if row[0] and cesaro_order(twice) is not None:
                self.assertIsNotNone(cesaro_order(row))


class Weights(unittest.TestCase):
    def test_tellers_of_weights(self):
        # Weights with the sum 1, the last number first, are a teller without UNDER that keeps ends.
        source = random.Random(908)
        for _ in range(40):
            number = source.randint(2, 8)
            found = telling_weights(number, random_kinds(source, number, 2))
            if found is not None:
                top = found[::-1]
                while top[-1] == nil:
                    top = top[:-1]
                self.assertIs(is_fair((top, (one,))), True)
                self.assertIs(keeps_ends((top, (one,))), True)

    def test_steps(self):
        for number in range(1, 8):
            steps = tuple((1, at) for at in range(1, number + 1))
            kinds = step_kinds(steps, number - 1)
            self.assertEqual(telling_weights(number, kinds), richardson(steps))
            self.assertEqual(calm_weights(number, kinds), richardson(steps))
            self.assertEqual(calmest_size(number, kinds), size_of_weights(richardson(steps)))
            self.assertEqual(hiding_row(number, kinds)[0], size_of_weights(richardson(steps)))
            self.assertIs(do_tell(number, kinds, richardson(steps)), True)

    def test_moments_that_are_rows(self):
        # 1 + the powers of a fraction below the top is a moment row; its kinds are the powers.
        for ratio in (half, (1, 3), (2, 5)):
            row = row_sum(ONES, ((one,), (one, (-ratio[0], ratio[1]))))
            found = best_weights(4, half)
            numbers = numbers_of(first_numbers(row, 4))
            missed = abs(sum(weight * number for weight, number in zip(numbers_of(found), numbers)) - 1)
            self.assertIs(error_within(found, half, (1, 99)), True)
            self.assertLessEqual(missed, Fraction(1, 99))
            self.assertEqual(told_end(first_numbers(row, 4), 1), one)
            kinds = (first_numbers(((one,), (one, (-ratio[0], ratio[1]))), 4),)
            told_there = telling_weights(4, kinds)
            self.assertEqual(sum(weight * number for weight, number in zip(numbers_of(told_there), numbers)), 1)


class Conventions(unittest.TestCase):
    def is_told_in_tuples(self, value):
        """Whether a value is made of numbers, words and tuples alone."""
        if isinstance(value, tuple):
            return all(self.is_told_in_tuples(part) for part in value)
        return value is None or type(value) in (int, str, bool)

    def test_calls_by_position_and_by_name(self):
        for module, functions in LISTED.items():
            for name, arguments in functions.items():
                with self.subTest(name=name):
                    function = getattr(module, name)
                    shown = repr(arguments)
                    first = function(*arguments.values())
                    self.assertIs(self.is_told_in_tuples(first), True)
                    self.assertEqual(function(**dict(reversed(list(arguments.items())))), first)
                    self.assertEqual(repr(function(*arguments.values())), repr(first))
                    self.assertEqual(repr(arguments), shown)


if __name__ == "__main__":
    unittest.main()
