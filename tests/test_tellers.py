"""Tellers: point [8] and the heading of tellers."""

import random
import unittest
from fractions import Fraction

from endtellers.errors import InvalidFraction, InvalidNumber, InvalidNumbers
from endtellers.tellers import are_alike, behind, is_fair, is_teller, mixed, plain, told, weights_of
from tests.making import (
    NOTHING, WRONG_FRACTIONS, WRONG_NUMBERS, WRONG_POLYNOMIALS, WRONG_TELLERS, multiplied, nested, numbers_of, pair,
    polynomial,
)
from tests.quotients import (
    AT_LESS, AT_ONE, ONES, PULSE, Quotient, Z, fair, random_quotient, random_shared, series,
)
from tests.refusals import check_given, check_index, check_teller_refused, check_tellers_refused

nil, half, one, two, less = (0, 1), (1, 2), (1, 1), (2, 1), (-1, 1)
GREAT = 10 ** 399
means, fade, lag = ((half, half), (one,)), ((half,), (one, (-1, 2))), ((nil, one), (one,))
sums = ((one,), (one, less))
WRONG_SMALL = NOTHING + [(), -1, -40, 41, 42, 10 ** 399, -(10 ** 399), True, False, (1, 1), (5,), "5", [5], {5: 5}]


def random_numbers(source, most):
    """Some fractions."""
    return [Fraction(source.randint(-9, 9), source.randint(1, 9)) for _ in range(source.randint(0, most))]


class IsTeller(unittest.TestCase):
    def test_what_is_one(self):
        right = [
            means, fade, lag, sums, ((one,), (one,)), ((less,), (less,)), ((nil, nil, one), (half, nil, one)),
            (((GREAT, 3),), ((-1, GREAT),)), (tuple([half] * 60), tuple([half] * 60)), ((one, less), (one, less)),
            ((nil,) * 59 + (one,), (one,)), (((10 ** 5000, 3),), ((3, 10 ** 5000), one)),
        ]
        for value in right:
            self.assertIs(is_teller(value), True)
            self.assertIs(is_teller(value=value), True)

    def test_what_is_none(self):
        for value in WRONG_TELLERS:
            self.assertIs(is_teller(value), False)
            self.assertIs(is_teller(value=value), False)

    def test_no_wrong_polynomial_stands_in_it(self):
        for value in WRONG_POLYNOMIALS:
            self.assertIs(is_teller((value, (one,))), False)
            self.assertIs(is_teller(((one,), value)), False)

    def test_under_is_not_nought_at_nought_and_top_may_be(self):
        self.assertIs(is_teller(((nil, one), (one,))), True)
        self.assertIs(is_teller(((one,), (nil, one))), False)
        self.assertIs(is_teller(((nil, one), (nil, one))), False)
        self.assertIs(is_teller(((one,), (nil, nil, half, one))), False)


class Plain(unittest.TestCase):
    def check(self, teller, expected):
        self.assertEqual(plain(teller), expected)
        self.assertEqual(plain(teller=teller), expected)

    def test_by_hand(self):
        self.check(means, means)
        self.check(((one,), (two,)), ((half,), (one,)))
        self.check(((one,), (less,)), ((less,), (one,)))
        self.check(((one,), ((-2, 1), one)), (((-1, 2),), (one, (-1, 2))))
        self.check(((one, less), (one, less)), ((one,), (one,)))
        self.check(((one, nil, less), (two, (-2, 1))), ((half, half), (one,)))
        self.check(((nil, two), (two, two)), ((nil, one), (one, one)))
        self.check(((nil, one, one), (one, two, one)), ((nil, one), (one, one)))
        self.check((((2, 3), (4, 3)), ((4, 5),)), (((5, 6), (5, 3)), (one,)))
        self.check((((GREAT, 7),), ((-1, GREAT),)), (((-GREAT * GREAT, 7),), (one,)))

    def test_any_common_parts(self):
        source = random.Random(81)
        for _ in range(200):
            quotient = random_quotient(source)
            self.check(quotient.plain(), quotient.plain())
            self.check(quotient.pair(*random_shared(source)), quotient.plain())

    def test_zeros_that_come_more_than_once(self):
        for above in range(4):
            for below in range(4):
                given = (polynomial(*multiplied(*[[2, 1]] * above, [0, 1])), polynomial(*multiplied(*[[2, 1]] * below)))
                self.check(given, Quotient(1, {(2, 1): above - below, Z: 1}).plain())

    def test_refusals(self):
        check_teller_refused(self, plain)


class AreAlike(unittest.TestCase):
    def test_by_hand(self):
        self.assertIs(are_alike(means, means), True)
        self.assertIs(are_alike(((one, less), (one, less)), ((half,), (half,))), True)
        self.assertIs(are_alike(((one, nil, less), (one, less)), ((one, one), (one,))), True)
        self.assertIs(are_alike(((less,), (less, one)), sums), True)
        self.assertIs(are_alike(means, lag), False)
        self.assertIs(are_alike(means, ((one, one), (one,))), False)
        self.assertIs(are_alike(means, ((half, half), (less,))), False)
        self.assertIs(are_alike(lag, ((one,), (one,))), False)
        self.assertIs(are_alike(sums, ((one,), (one, one))), False)
        # The same first weights are not all of them.
        self.assertIs(are_alike(((one,), (one,)), (polynomial(1, *[0] * 40, 1), (one,))), False)

    def test_any(self):
        source = random.Random(82)
        for _ in range(100):
            first, second = random_quotient(source), random_quotient(source)
            given = first.pair(*random_shared(source))
            self.assertIs(are_alike(given, first.pair(*random_shared(source))), True)
            self.assertIs(are_alike(teller=given, other=second.pair()), first.plain() == second.plain())
            self.assertIs(are_alike(given, second.pair()), series(*first.lists(), 30) == series(*second.lists(), 30))

    def test_refusals(self):
        check_tellers_refused(self, are_alike, means)


class IsFair(unittest.TestCase):
    def test_by_hand(self):
        fair_ones = [
            means, fade, lag, ((one,), (one,)), ((less,), (less,)), ((one, less), (one, less)),
            ((one, one, one), ((3, 1),)), ((nil, nil, one), (one,)), ((two, less), (one,)), ((less, two), (one,)),
            ((one, (-2, 1), one), (one, (-2, 1), one)), ((one,), (less, two)), ((one, nil, less), (two, (-2, 1))),
        ]
        for teller in fair_ones:
            self.assertIs(is_fair(teller), True)
            self.assertIs(is_fair(teller=teller), True)
        unfair = [
            sums, ((one, less), (one,)), ((two,), (one,)), ((less,), (one,)), ((one, one), (one,)),
            ((one, less), (two, (-2, 1))), ((one, (-2, 1), one), (one, less)), ((one, less), (one, (-2, 1), one)),
            ((one,), (two, one)), ((half,), (one, one)), ((less, nil, one), (two, (-2, 1))),
        ]
        for teller in unfair:
            self.assertIs(is_fair(teller), False)

    def test_any(self):
        source = random.Random(83)
        seen = []
        for _ in range(200):
            quotient = random_quotient(source)
            seen.append(quotient.is_fair())
            self.assertIs(is_fair(quotient.pair(*random_shared(source))), seen[-1])
        self.assertGreater(min(seen.count(True), seen.count(False)), 50)

    def test_refusals(self):
        check_teller_refused(self, is_fair)


class Behind(unittest.TestCase):
    def test_by_hand(self):
        self.assertEqual(behind(means, means), (((1, 4), (1, 2), (1, 4)), (one,)))
        self.assertEqual(behind(sums, ((one, less), (one,))), ((one,), (one,)))
        self.assertEqual(behind(lag, lag), ((nil, nil, one), (one,)))
        self.assertEqual(behind(((two,), (less,)), ((one, one), (two, two))), ((less,), (one,)))
        # What the one has above and the other one below is a common part.
        self.assertEqual(behind(((one, one), (one, (1, 2))), ((two, one), (one, one))), ((two,), (one,)))

    def test_any_in_either_order(self):
        source = random.Random(84)
        for _ in range(150):
            first, second = random_quotient(source), random_quotient(source)
            given, other = first.pair(*random_shared(source)), second.pair(*random_shared(source))
            expected = first.times(second).plain()
            self.assertEqual(behind(given, other), expected)
            self.assertEqual(behind(other=given, teller=other), expected)

    def test_it_tells_what_the_one_tells_of_what_the_other_tells(self):
        source = random.Random(85)
        for _ in range(50):
            given, other = random_quotient(source).pair(), random_quotient(source).pair()
            numbers = tuple(pair(number) for number in random_numbers(source, 12))
            self.assertEqual(told(behind(given, other), numbers), told(given, told(other, numbers)))

    def test_refusals(self):
        check_tellers_refused(self, behind, means)


class Mixed(unittest.TestCase):
    def test_by_hand(self):
        self.assertEqual(mixed(means, lag, nil), means)
        self.assertEqual(mixed(means, lag, one), lag)
        self.assertEqual(mixed(means, lag, less), ((one,), (one,)))
        self.assertEqual(mixed(means, lag, (1, 3)), (((1, 3), (2, 3)), (one,)))
        self.assertEqual(mixed(lag, means, (1, 3)), (((1, 6), (5, 6)), (one,)))
        self.assertEqual(mixed(sums, ((one,), (one, one)), half), ((one,), (one, nil, less)))

    def test_nought(self):
        self.assertIs(mixed(means, ((less, less), (two,)), half), None)
        self.assertIs(mixed(((one,), (one, one)), ((two, (-2, 1)), (one, nil, less)), less), None)
        self.assertIs(mixed(means, ((half, half), (two,)), two), None)
        self.assertIsNot(mixed(means, ((half, half), (two,)), less), None)
        self.assertIsNot(mixed(means, means, half), None)

    def test_last_numbers_that_become_nought(self):
        self.assertEqual(mixed(((one, one), (one,)), ((one, less), (one,)), half), ((one,), (one,)))
        self.assertEqual(mixed(((one, one), (one,)), ((less, one), (one,)), half), ((nil, one), (one,)))
        self.assertEqual(mixed(((one,), (one, one)), ((nil, one), (one, one)), half), ((half,), (one,)))

    def test_any(self):
        source = random.Random(86)
        for _ in range(150):
            first, second = random_quotient(source), random_quotient(source)
            share = Fraction(source.randint(-6, 6), source.randint(1, 4))
            given, other = first.pair(*random_shared(source)), second.pair(*random_shared(source))
            found = mixed(given, other, pair(share))
            self.assertEqual(found, mixed(fraction=pair(share), other=other, teller=given))
            pairs = zip(series(*first.lists(), 40), series(*second.lists(), 40))
            expected = [(1 - share) * number + share * more for number, more in pairs]
            if found is None:
                self.assertEqual(expected, [0] * 40)
            else:
                self.assertEqual(series(*map(numbers_of, found), 40), expected)
                self.assertEqual(found[1][0], one)
                self.assertEqual(plain(found), found)

    def test_refusals(self):
        check_tellers_refused(self, mixed, means, half)
        check_tellers_refused(self, mixed, means, None)
        for value in WRONG_FRACTIONS:
            check_given(self, InvalidFraction, value, mixed, means, lag, value)
            check_given(self, InvalidFraction, value, mixed, fraction=value, teller=sums, other=sums)


class Told(unittest.TestCase):
    def test_by_hand(self):
        self.assertEqual(told(means, (one, two, less)), (half, (3, 2), half))
        self.assertEqual(told(sums, (one, two, less, half)), (one, (3, 1), two, (5, 2)))
        self.assertEqual(told(((one, less), (one,)), (one, two, less, half)), (one, one, (-3, 1), (3, 2)))
        self.assertEqual(told(((one,), (two, one)), (one, nil, nil)), (half, (-1, 4), (1, 8)))
        self.assertEqual(told(((one,), ((-2, 1), one)), (one, nil, nil)), ((-1, 2), (-1, 4), (-1, 8)))
        self.assertEqual(told(((nil, nil, (3, 1)), (two, nil, less)), (one, one, one, two, less)),
                         (nil, nil, (3, 2), (3, 2), (9, 4)))
        self.assertEqual(told(((one, one), (two, two)), (one, half)), (half, (1, 4)))

    def test_of_no_numbers(self):
        for teller in (means, fade, lag, sums):
            self.assertEqual(told(teller, ()), ())

    def test_numbers_beyond_those_of_the_teller_and_short_of_them(self):
        long = (polynomial(*range(1, 31)), polynomial(1, *[Fraction(1, 2)] * 20))
        numbers = tuple((at * at - 5 * at, 1) for at in range(50))
        for many in (0, 1, 2, 19, 20, 21, 22, 29, 30, 31, 50):
            self.check(long, [number for number, _ in numbers[:many]])
        self.assertEqual(told(long, numbers)[:10], told(long, numbers[:10]))

    def check(self, teller, numbers):
        found = told(teller, tuple(pair(number) for number in numbers))
        self.assertEqual(found, told(numbers=tuple(pair(number) for number in numbers), teller=teller))
        self.assertIs(type(found), tuple)
        self.assertEqual(len(found), len(numbers))
        tops, unders, ends = numbers_of(teller[0]), numbers_of(teller[1]), numbers_of(found)
        for at in range(len(numbers)):
            # As the point tells it: what stands ahead of the first number counts as 0.
            left = sum(number * ends[at - back] for back, number in enumerate(unders) if at >= back)
            right = sum(number * numbers[at - back] for back, number in enumerate(tops) if at >= back)
            self.assertEqual(left, right)

    def test_any(self):
        source = random.Random(87)
        for _ in range(200):
            self.check(random_quotient(source).pair(*random_shared(source)), random_numbers(source, 14))

    def test_great_numbers(self):
        self.check((((GREAT, 7), (1, GREAT)), ((1, GREAT), (GREAT, 3))), [GREAT, Fraction(1, GREAT), -GREAT])
        self.check((polynomial(*[1] * 60), polynomial(*[1] * 60)), [GREAT] * 60)
        self.check((polynomial(*[Fraction(1, GREAT + at) for at in range(20)]), (one,)), [1] * 30)

    def test_fractions_in_lowest_terms(self):
        for number in told(((two, (2, 3)), ((6, 1),)), (one, (3, 1), (-3, 2))):
            self.assertEqual(pair(Fraction(*number)), number)
        self.assertEqual(told(((two,), ((-2, 1),)), (one, (3, 7), nil)), (less, (-3, 7), nil))

    def test_it_tells_the_same_as_the_plain_form(self):
        source = random.Random(88)
        for _ in range(50):
            quotient = random_quotient(source)
            numbers = tuple(pair(number) for number in random_numbers(source, 10))
            self.assertEqual(told(quotient.pair(*random_shared(source)), numbers), told(quotient.plain(), numbers))

    def test_refusals(self):
        for numbers in ((), (one,), None, (None,)):
            check_teller_refused(self, told, numbers)
        for value, index in WRONG_NUMBERS:
            for teller in (means, sums):
                check_index(self, InvalidNumbers, index, told, teller, value)
                check_index(self, InvalidNumbers, index, told, numbers=value, teller=teller)


class WeightsOf(unittest.TestCase):
    def test_by_hand(self):
        self.assertEqual(weights_of(means, 4), (half, half, nil, nil))
        self.assertEqual(weights_of(sums, 3), (one, one, one))
        self.assertEqual(weights_of(lag, 2), (nil, one))
        self.assertEqual(weights_of(((one,), (one, (-2, 1), one)), 5), ((1, 1), (2, 1), (3, 1), (4, 1), (5, 1)))
        self.assertEqual(weights_of(((one,), (one, less, less)), 40)[-1], (102334155, 1))

    def test_how_many(self):
        for number in range(41):
            self.assertEqual(len(weights_of(fade, number)), number)
            self.assertEqual(weights_of(teller=fade, number=number), tuple((1, 2 ** at) for at in range(1, number + 1)))
        self.assertEqual(weights_of(means, 0), ())

    def test_any(self):
        source = random.Random(89)
        for _ in range(100):
            quotient = random_quotient(source)
            number = source.randint(0, 40)
            expected = tuple(pair(number) for number in series(*quotient.lists(), number))
            self.assertEqual(weights_of(quotient.pair(*random_shared(source)), number), expected)

    def test_refusals(self):
        for number in (0, 40, 41, None):
            check_teller_refused(self, weights_of, number)
        for value in WRONG_SMALL:
            check_given(self, InvalidNumber, value, weights_of, means, value)
            check_given(self, InvalidNumber, value, weights_of, number=value, teller=sums)


class Conventions(unittest.TestCase):
    def test_kinds_of_results(self):
        for found in (plain(means), behind(means, fade), mixed(means, fade, half), plain(((two,), ((-2, 1), one)))):
            self.assertIs(type(found), tuple)
            self.assertIs(is_teller(found), True)
            for part in found:
                self.assertIs(type(part), tuple)
        for found in (told(fade, (one, one)), weights_of(fade, 2)):
            self.assertIs(type(found), tuple)
            for number in found:
                self.assertIs(type(number), tuple)
                self.assertEqual([type(whole) for whole in number], [int, int])

    def test_what_was_returned_may_be_passed(self):
        teller = (((GREAT, 3), (1, GREAT)), ((7, 5), (1, GREAT)))
        for _ in range(3):
            teller = behind(teller, teller)
        self.assertIs(is_teller(teller), True)
        self.assertEqual((len(teller[0]), len(teller[1])), (9, 9))
        self.assertEqual(plain(teller), teller)
        self.assertEqual(told(teller, weights_of(teller, 2))[0], pair(Fraction(5 * GREAT, 21) ** 16))
        long = (polynomial(*[1] * 60), (one,))
        longer = behind(behind(long, long), long)
        self.assertEqual(len(longer[0]), 178)
        self.assertIs(is_fair(longer), False)
        self.assertIs(are_alike(longer, behind(long, behind(long, long))), True)

    def test_nested_values_are_no_tellers(self):
        for depth in range(1, 15):
            self.assertIs(is_teller(nested(depth)), False)

    def test_what_was_given_is_kept_whole(self):
        numbers = (one, half)
        teller = (((2, 1), (2, 1)), ((2, 1), (2, 1)))
        for call in (lambda: plain(teller), lambda: told(teller, numbers), lambda: mixed(teller, teller, half)):
            self.assertEqual(call(), call())
        self.assertEqual(teller, (((2, 1), (2, 1)), ((2, 1), (2, 1))))
        self.assertEqual(numbers, ((1, 1), (1, 2)))

    def test_quotients_of_the_tests(self):
        self.assertEqual(PULSE.plain(), ((one,), (one,)))
        self.assertEqual(ONES.plain(), sums)
        self.assertEqual(fair({AT_LESS: 1}).plain(), means)
        self.assertEqual(Quotient(1, {AT_ONE: 2, AT_LESS: -1}).plain(), ((one, (-2, 1), one), (one, one)))


if __name__ == "__main__":
    unittest.main()
