"""Moments: points [18] to [20] and the heading of moments."""

import random
import unittest
from fractions import Fraction

from endtellers.errors import InvalidFraction, InvalidNumber, InvalidWeights
from endtellers.moments import (
    alternating_place, alternating_within, best_alternating, best_weights, error_within, least_alternating,
    least_error, worst_place,
)
from tests.curves import curve_turning, greatest_size, tuple_of
from tests.making import WRONG_FROM_NOUGHT, WRONG_SHARES, multiplied, numbers_of, pair, wrong_tuples, wrong_wholes
from tests.quotients import worth
from tests.refusals import check_refused, given, indexed

nil, half, one, two, less = (0, 1), (1, 2), (1, 1), (2, 1), (-1, 1)
GREAT = 10 ** 399
WRONG_WEIGHTS = [(value, None if isinstance(value, tuple) and len(value) > 9 else index)
                 for value, index in wrong_tuples(9)]
WRONG_SUMS = [((two,), None), ((nil,), None), ((one, one), None), ((half, (1, 3)), None),
              ((one, nil, (1, GREAT)), None),
              (((1, 9),) * 8, None), ((nil,) * 9, None), ((less, one), None)]


def chebyshev(degree, at):
    """What Chebyshev's polynomial of the degree is at a number."""
    low, high = Fraction(1), Fraction(at)
    for _ in range(degree):
        low, high = high, 2 * at * high - low
    return low


def random_places(source, many):
    """So many places, most of them on or near the stretch."""
    return [Fraction(source.randint(-3, 12), source.choice([7, 10, 12])) for _ in range(many)]


class ErrorWithin(unittest.TestCase):
    def check(self, weights, top, bound, expected):
        """The place that is told is one of the stretch at which the curve is truly beyond."""
        fraction = pair(bound)
        self.assertIs(error_within(weights, top, fraction), expected)
        self.assertIs(error_within(fraction=fraction, top=top, weights=weights), expected)
        place = worst_place(weights, top, fraction)
        self.assertEqual(worst_place(fraction=fraction, top=top, weights=weights), place)
        self.assertEqual(place is None, expected)
        if place is not None:
            at = Fraction(*place)
            self.assertEqual(place, pair(at))
            self.assertTrue(0 <= at <= Fraction(*top))
            self.assertGreater(abs(worth(numbers_of(weights), at)), bound)

    def check_greatest(self, weights, top, greatest):
        for more in (Fraction(0), Fraction(1, GREAT), Fraction(1, 7), Fraction(GREAT)):
            self.check(weights, top, greatest + more, True)
        for part in (Fraction(0), Fraction(1, 3), 1 - Fraction(1, 10 ** 20), 1 - Fraction(1, 10 ** 60)):
            if greatest > 0:
                self.check(weights, top, greatest * part, False)

    def test_by_hand(self):
        self.check_greatest((less, two), half, Fraction(1))
        self.check_greatest((nil, one), half, Fraction(1, 2))
        self.check_greatest((nil, one), (9, 10), Fraction(9, 10))
        self.check_greatest((one,), half, Fraction(1))
        self.check_greatest((one, nil, nil), half, Fraction(1))
        self.check_greatest((half, half), half, Fraction(3, 4))
        self.check_greatest(((4, 1), (-3, 1)), half, Fraction(4))
        self.check_greatest(((-3, 1), (4, 1)), half, Fraction(3))
        self.check_greatest((nil,) * 8 + (one,), half, Fraction(1, 256))
        # 4 t (1 - t) + t t: at 2 / 3 it is 4 / 3.
        self.check_greatest((nil, (4, 1), (-3, 1)), (9, 10), Fraction(4, 3))
        self.check_greatest((nil, (4, 1), (-3, 1)), (2, 3), Fraction(4, 3))
        self.check_greatest((nil, (4, 1), (-3, 1)), half, Fraction(5, 4))

    def test_bounds_of_nought(self):
        # No curve of weights with the sum 1 is nought everywhere.
        source = random.Random(401)
        for weights in [(one,), (nil, one), (two, less), best_weights(4, half)]:
            self.check(weights, half, Fraction(0), False)
        for _ in range(20):
            numbers = curve_turning(random_places(source, 4), Fraction(3), 1)
            self.check(tuple_of(numbers), (2, 3), Fraction(0), False)

    def test_turning_at_known_places(self):
        source = random.Random(402)
        for _ in range(60):
            many = source.randint(1, 7)
            places = random_places(source, many)
            if source.randint(0, 1):
                # At places that come twice the curve stands still and goes on.
                places[-1] = places[0]
            factor = Fraction(source.choice([-1, 1]) * source.randint(1, 2000), source.randint(1, 5))
            top = Fraction(source.randint(1, 11), 12)
            numbers = curve_turning(places, factor, 1)
            self.check_greatest(tuple_of(numbers), pair(top), greatest_size(numbers, places, top))

    def test_touching_at_places_that_are_no_fractions(self):
        # 1 + k ((t t - s) (t t - s) - (1 - s) (1 - s)) turns at the root of s.
        for square in (Fraction(1, 2), Fraction(1, 3), Fraction(2, 7)):
            for factor in (Fraction(20), Fraction(9), Fraction(-20)):
                numbers = [1 + factor * (square ** 2 - (1 - square) ** 2), 0, -2 * factor * square, 0, factor]
                numbers = [Fraction(number) for number in numbers]
                middle = 1 - factor * (1 - square) ** 2
                top = Fraction(9, 10)
                greatest = max(abs(middle), abs(worth(numbers, 0)), abs(worth(numbers, top)))
                self.check_greatest(tuple_of(numbers), pair(top), greatest)
                self.check(tuple_of(numbers), pair(top), greatest - Fraction(1, 10 ** 200), False)
        # With u = t t it is - 1 + 8 u - 8 u u + 2 u u u, which turns at u = 2 / 3.
        self.check_greatest((less, nil, (8, 1), nil, (-8, 1), nil, two), (9, 10), Fraction(37, 27))

    def test_a_little_beyond_beside_a_place_at_the_bound(self):
        # E less the curve is k (t - a) (t - b): it is 0 at a and at b, and the curve is beyond between them.
        top = Fraction(3, 4)
        for width in (Fraction(1, 8), Fraction(1, 100), Fraction(1, 3 * 10 ** 30)):
            for low, high in [(Fraction(0), width), (top - width, top), (top / 2, top / 2 + width),
                              (top / 2 - width, top / 2), (top / 4, top / 4 + width), (Fraction(-1), width)]:
                for factor in (Fraction(7), Fraction(1, 3)):
                    bound = 1 + factor * (1 - low) * (1 - high)
                    gap = [factor * number for number in multiplied([-low, 1], [-high, 1])]
                    curve = [bound - gap[0], -gap[1], -gap[2]]
                    self.check(tuple_of(curve), pair(top), bound, False)
                    # With each place twice the curve keeps within.
                    bound = 1 + factor * (1 - low) ** 2 * (1 - high) ** 2
                    gap = [factor * number for number in multiplied([-low, 1], [-high, 1], [-low, 1], [-high, 1])]
                    curve = [bound - gap[0]] + [-number for number in gap[1:]]
                    self.assertIs(error_within(tuple_of(curve), pair(top), pair(max(bound, 20))), True)
                    if bound >= max(abs(worth(curve, at)) for at in (Fraction(0), top)):
                        self.check(tuple_of(curve), pair(top), bound, True)

    def test_touching_four_times(self):
        for number in range(2, 10):
            weights, bound = best_weights(number, (3, 4)), Fraction(*least_error(number, (3, 4)))
            self.check(weights, (3, 4), bound, True)
            self.check(weights, (3, 4), bound * (1 - Fraction(1, GREAT)), False)
            self.check(weights, (4, 5), bound, False)
            self.check(weights, (2, 3), bound, True)
            self.check(weights, (2, 3), bound * (1 - Fraction(1, GREAT)), False)

    def test_both_ends_are_let(self):
        # The greatest size is just at 0, or just at the top.
        weights = tuple_of([Fraction(3), Fraction(-2)])
        self.check(weights, half, Fraction(3) - Fraction(1, 10 ** 50), False)
        place = worst_place(weights, half, pair(Fraction(3) - Fraction(1, 10 ** 50)))
        self.assertLess(Fraction(*place), Fraction(1, 10 ** 49))
        weights = tuple_of([Fraction(-1), Fraction(2)])
        place = worst_place(weights, (9, 10), pair(Fraction(1) - Fraction(1, 10 ** 50)))
        self.assertLess(Fraction(*place), Fraction(1, 10 ** 49))
        weights = tuple_of([Fraction(-1), Fraction(3), Fraction(-1)])
        top = Fraction(99, 100)
        self.check_greatest(weights, pair(top), max(Fraction(1), worth([-1, 3, -1], top)))

    def test_great_weights(self):
        weights = ((GREAT, 1), (1 - 2 * GREAT, 1), (GREAT, 1))
        self.check_greatest(weights, half, Fraction(GREAT))
        weights = ((1, GREAT), (GREAT - 1, GREAT))
        self.check_greatest(weights, (GREAT - 1, GREAT), 1 - Fraction(GREAT - 1, GREAT ** 2))
        self.check_greatest(weights, (1, GREAT), Fraction(1, GREAT) + Fraction(GREAT - 1, GREAT ** 2))

    def test_moment_rows(self):
        # Of s + the sum of m t^n the weights miss s by the sum of m times the curve at t.
        source = random.Random(403)
        for _ in range(40):
            number = source.randint(1, 9)
            weights = [Fraction(source.randint(-5, 5), source.randint(1, 4)) for _ in range(number - 1)]
            weights.append(1 - sum(weights))
            top = Fraction(source.randint(1, 9), 10)
            bound = Fraction(source.randint(0, 30), 10)
            end = Fraction(source.randint(-5, 5))
            holds = error_within(tuple_of(weights), pair(top), pair(bound))
            masses = [(top * source.randint(0, 20) / 20, Fraction(source.randint(0, 3))) for _ in range(4)]
            place = worst_place(tuple_of(weights), pair(top), pair(bound))
            if place is not None:
                masses = [(Fraction(*place), Fraction(1))]
            row = [end + sum(mass * place ** at for place, mass in masses) for at in range(number)]
            missed = abs(sum(number * weight for number, weight in zip(row, weights)) - end)
            self.assertEqual(missed <= bound * sum(mass for _, mass in masses), holds)

    def test_refusals(self):
        names = ["weights", "top", "fraction"]
        wrongs = [indexed(InvalidWeights, WRONG_WEIGHTS + WRONG_SUMS), given(InvalidFraction, WRONG_SHARES),
                  given(InvalidFraction, WRONG_FROM_NOUGHT)]
        for call in (error_within, worst_place):
            for rights in ([(less, two), half, nil], [(one,), (1, GREAT), (GREAT, 1)],
                           [(nil,) * 8 + (one,), half, half]):
                check_refused(self, call, names, rights, wrongs)

    def test_a_wrong_weight_comes_ahead_of_the_sum(self):
        for weights, index in [((one, one, None), 2), ((two, True), 1), ((None, one), 0), ((one,) * 8 + ((2, 4),), 8)]:
            with self.assertRaises(InvalidWeights) as caught:
                error_within(weights, half, one)
            self.assertEqual(caught.exception.index, index)


class BestWeights(unittest.TestCase):
    def test_by_hand(self):
        self.assertEqual(best_weights(1, half), (one,))
        self.assertEqual(best_weights(2, half), ((-1, 3), (4, 3)))
        self.assertEqual(best_weights(3, half), ((1, 17), (-16, 17), (32, 17)))
        self.assertEqual([least_error(number, half) for number in (1, 2, 3)], [one, (1, 3), (1, 17)])
        self.assertEqual(best_weights(top=half, number=2), best_weights(2, half))
        self.assertEqual(least_error(top=half, number=2), least_error(2, half))

    def test_the_curve(self):
        for top in (Fraction(1, 2), Fraction(9, 10), Fraction(1, 7), Fraction(GREAT - 1, GREAT), Fraction(1, GREAT)):
            for number in range(1, 10):
                weights = best_weights(number, pair(top))
                self.assertEqual(len(weights), number)
                self.assertEqual(sum(numbers_of(weights)), 1)
                lead = chebyshev(number - 1, (2 - top) / top)
                self.assertEqual(least_error(number, pair(top)), pair(1 / lead))
                for at in (Fraction(0), top, top / 3, Fraction(3, 5), Fraction(1), Fraction(-2)):
                    self.assertEqual(worth(numbers_of(weights), at), chebyshev(number - 1, (2 * at - top) / top) / lead)

    def test_all_others_miss_by_more(self):
        source = random.Random(404)
        for _ in range(60):
            number = source.randint(2, 9)
            top = pair(Fraction(source.randint(1, 9), 10))
            best, bound = numbers_of(best_weights(number, top)), least_error(number, top)
            self.assertIs(error_within(tuple_of(best), top, bound), True)
            moved = list(best)
            low, high = source.sample(range(number), 2)
            more = Fraction(source.choice([-1, 1]), source.choice([1, 10, 10 ** 6, 10 ** 40]))
            moved[low] += more
            moved[high] -= more
            self.assertIs(error_within(tuple_of(moved), top, bound), False)

    def test_refusals(self):
        wrongs = [given(InvalidNumber, wrong_wholes(1, 9)), given(InvalidFraction, WRONG_SHARES)]
        for call in (best_weights, least_error):
            for number in (1, 9):
                for top in (half, (1, GREAT), (GREAT - 1, GREAT)):
                    check_refused(self, call, ["number", "top"], [number, top], wrongs)


class Alternating(unittest.TestCase):
    def check(self, weights, bound, expected):
        fraction = pair(bound)
        self.assertIs(alternating_within(weights, fraction), expected)
        self.assertIs(alternating_within(fraction=fraction, weights=weights), expected)
        place = alternating_place(weights, fraction)
        self.assertEqual(alternating_place(fraction=fraction, weights=weights), place)
        self.assertEqual(place is None, expected)
        if place is not None:
            at = Fraction(*place)
            self.assertEqual(place, pair(at))
            self.assertTrue(0 <= at <= 1)
            self.assertGreater(abs(1 - (1 + at) * worth(numbers_of(weights), at)), bound)

    def check_greatest(self, weights, greatest):
        for more in (Fraction(0), Fraction(1, GREAT), Fraction(1, 7), Fraction(GREAT)):
            self.check(weights, greatest + more, True)
        for part in (Fraction(0), Fraction(1, 3), 1 - Fraction(1, 10 ** 20), 1 - Fraction(1, 10 ** 60)):
            if greatest > 0:
                self.check(weights, greatest * part, False)

    def test_by_hand(self):
        self.check_greatest((one, (-1, 2)), Fraction(1, 8))
        self.check_greatest(((2, 3),), Fraction(1, 3))
        self.check_greatest((one,), Fraction(1))
        self.check_greatest((nil,), Fraction(1))
        self.check_greatest((nil,) * 9, Fraction(1))
        self.check_greatest((half,), Fraction(1, 2))
        self.check_greatest((half, nil, nil), Fraction(1, 2))
        self.check_greatest((two,), Fraction(3))
        self.check_greatest((less,), Fraction(3))
        self.check_greatest((one, less), Fraction(1))
        # Plain first sums, the last number half: 1 - t + t t / 2 leaves (t t - t t t) / 2, at 2 / 3 the greatest.
        self.check_greatest((one, less, half), Fraction(2, 27))

    def test_turning_at_known_places(self):
        source = random.Random(405)
        for _ in range(60):
            places = random_places(source, source.randint(1, 8))
            if source.randint(0, 1):
                places[-1] = places[0]
            factor = Fraction(source.choice([-1, 1]) * source.randint(1, 200), source.randint(1, 5))
            numbers = curve_turning(places, factor, -1)
            rest = [-number for number in numbers]
            rest[0] += 1
            weights = [Fraction(0)] * (len(rest) - 1)
            for at in range(len(weights) - 1, -1, -1):
                weights[at] = rest[at + 1] - (weights[at + 1] if at + 1 < len(weights) else 0)
            self.assertEqual(multiplied(weights, [1, 1]), rest)
            self.check_greatest(tuple_of(weights), greatest_size(numbers, places, 1))

    def test_sums(self):
        # S is the sum of m / (1 + t); what the weights tell misses it by the sum of m P(t) / (1 + t).
        source = random.Random(406)
        for _ in range(60):
            weights = [Fraction(source.randint(-3, 3), source.randint(1, 4)) for _ in range(source.randint(1, 9))]
            bound = Fraction(source.randint(0, 20), 5)
            place = alternating_place(tuple_of(weights), pair(bound))
            masses = [(Fraction(source.randint(0, 20), 20), Fraction(source.randint(1, 3))) for _ in range(4)]
            if place is not None:
                masses = [(Fraction(*place), Fraction(1))]
            terms = [sum(mass * at ** power for at, mass in masses) for power in range(len(weights))]
            total = sum(mass / (1 + at) for at, mass in masses)
            missed = abs(sum(term * weight for term, weight in zip(terms, weights)) - total)
            self.assertEqual(missed <= bound * total, alternating_within(tuple_of(weights), pair(bound)))

    def test_best_by_hand(self):
        self.assertEqual(best_alternating(1), ((2, 3),))
        self.assertEqual(best_alternating(2), ((16, 17), (-8, 17)))
        self.assertEqual([least_alternating(number) for number in (1, 2, 3)], [(1, 3), (1, 17), (1, 99)])
        self.assertEqual(best_alternating(number=2), best_alternating(2))
        self.assertEqual(least_alternating(number=2), least_alternating(2))

    def test_best_as_in_cohen_villegas_zagier(self):
        for number in range(1, 10):
            lead = chebyshev(number, 3)
            low, high, weights = Fraction(-1), -lead, []
            for at in range(number):
                high = low - high
                weights.append(high / lead)
                low = low * (at + number) * (at - number) / ((at + Fraction(1, 2)) * (at + 1))
            # They tell a_0 - a_1 + .. of the terms without signs, with these weights for the terms themselves.
            self.assertEqual(best_alternating(number), tuple_of(weights))
            self.assertEqual(least_alternating(number), pair(1 / lead))
            self.check(best_alternating(number), 1 / lead, True)
            self.check(best_alternating(number), (1 / lead) * (1 - Fraction(1, GREAT)), False)

    def test_all_others_miss_by_more(self):
        source = random.Random(407)
        for number in range(1, 10):
            best = numbers_of(best_alternating(number))
            for _ in range(4):
                moved = list(best)
                moved[source.randrange(number)] += Fraction(source.choice([-1, 1]), source.choice([1, 100, 10 ** 40]))
                self.check(tuple_of(moved), Fraction(*least_alternating(number)), False)

    def test_refusals(self):
        wrongs = [indexed(InvalidWeights, WRONG_WEIGHTS), given(InvalidFraction, WRONG_FROM_NOUGHT)]
        for call in (alternating_within, alternating_place):
            for rights in ([(one,), nil], [(two, less), (GREAT, 1)], [(nil,) * 9, half]):
                check_refused(self, call, ["weights", "fraction"], rights, wrongs)
        for call in (best_alternating, least_alternating):
            for number in (1, 9):
                check_refused(self, call, ["number"], [number], [given(InvalidNumber, wrong_wholes(1, 9))])


class Conventions(unittest.TestCase):
    def test_equal_calls_return_equal_results(self):
        for _ in range(2):
            self.assertEqual(worst_place((less, two), half, half), worst_place((less, two), half, half))
            self.assertEqual(alternating_place((two,), half), alternating_place((two,), half))

    def test_great_results_may_be_passed(self):
        top = (GREAT - 1, GREAT)
        weights, bound = best_weights(9, top), least_error(9, top)
        self.assertGreater(len(str(weights)), 400 * 9)
        self.assertIs(error_within(weights, top, bound), True)
        self.assertIs(alternating_within(weights, one), False)


if __name__ == "__main__":
    unittest.main()
