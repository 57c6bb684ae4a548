"""Serving: points [10] and [11], the rows of [12] that are told there, and the heading of serving."""

import random
import unittest
from fractions import Fraction

from endtellers.errors import NotFair
from endtellers.polynomials import is_polynomial
from endtellers.serving import both, either, serve_alike, serves_all, stray
from endtellers.tellers import behind, mixed, plain, told
from tests.making import made_of, numbers_of, pair, polynomial
from tests.quotients import (
    AT_LESS, AT_ONE, FACTORS, ONES, PULSE, Quotient, Z, fair, random_fair, random_quotient, random_shared, series,
    square_of_size,
)
from tests.refusals import check_tellers_refused

nil, half, one, two, less = (0, 1), (1, 2), (1, 1), (2, 1), (-1, 1)
GREAT = 10 ** 399
means, fade, lag = ((half, half), (one,)), ((half,), (one, (-1, 2))), ((nil, one), (one,))
sums, double = ((one,), (one, less)), ((two,), (one,))
threes = (((1, 3), (1, 3), (1, 3)), (one,))
later = ((nil, nil, nil, one), (one,))
plainly = ((one,), (one,))

# Its zeros are beyond the circle, so what tellers serve does not depend on them.
FAR = [(-2, 1), (2, 1), (4, 1, 1), (Fraction(-3, 2), 1), (Fraction(9, 4), -1, 1), (Fraction(11, 10), -1, 1)]


def quotient_of(row):
    """The numbers of a row's TOP and UNDER."""
    return numbers_of(row[0]), numbers_of(row[1])


def row_under(word, other):
    """The quotient of the row of which the other one, but for its delay, tells the pulse or the ones; its end."""
    if word == "pulse":
        return PULSE.over(other.undelayed()), nil
    return ONES.over(other.undelayed()), one


class ServesAll(unittest.TestCase):
    def check(self, teller, other, expected):
        self.assertIs(serves_all(teller, other), expected)
        self.assertIs(serves_all(other=other, teller=teller), expected)
        found = stray(teller, other)
        self.assertEqual(found is None, expected)
        self.assertEqual(stray(other=other, teller=teller), found)
        if found is not None:
            self.check_stray(teller, other, *found)

    def check_stray(self, teller, other, row, end):
        """Among many numbers the other one's near the end, and the teller's are far from it again and again."""
        top, under = row
        self.assertTrue(is_polynomial(top) and is_polynomial(under) and under[0] != nil)
        numbers = tuple(pair(number) for number in series(*quotient_of(row), 80))
        last = [number - Fraction(*end) for number in numbers_of(told(other, numbers))[-12:]]
        self.assertEqual(last, [0] * 12)
        last = [number - Fraction(*end) for number in numbers_of(told(teller, numbers))[-12:]]
        self.assertGreater(max(map(abs, last)), Fraction(1, 10 ** 9))

    def test_those_that_keep_ends_serve_what_the_delay_serves(self):
        for teller, expected in [(means, True), (fade, True), (threes, True), (plainly, True), (sums, False),
                                 (double, False), (((one,), (one, two)), False), (((one, less), (one,)), False)]:
            for other in (plainly, lag, later):
                self.check(teller, other, expected)
        self.check(double, double, True)
        self.check(((nil, two), (one,)), double, True)
        self.check(double, ((nil, two), (one,)), True)
        self.check(plainly, double, False)

    def test_a_delay_is_left_out_of_the_other_one_alone(self):
        for teller in (means, fade, sums, ((one, less), (one, two)), double):
            for delay in range(1, 4):
                delayed = behind(teller, (polynomial(*[0] * delay, 1), (one,)))
                self.check(teller, delayed, True)
                self.check(delayed, teller, True)
                self.check(delayed, delayed, True)
                self.assertIs(serve_alike(teller, delayed), True)

    def test_zeros_of_top_within_on_and_beyond_the_circle(self):
        for zero in (Fraction(1, 2), Fraction(-1, 3), -1, Fraction(-GREAT, GREAT + 1)):
            top = polynomial(Fraction(-zero) / (1 - zero), Fraction(1) / (1 - zero))
            self.check(plainly, (top, (one,)), False)
            self.check((top, (one,)), plainly, True)
        for zero in (2, -2, Fraction(-GREAT - 1, GREAT), Fraction(3, 2)):
            top = polynomial(Fraction(-zero) / (1 - zero), Fraction(1) / (1 - zero))
            self.assertIs(serve_alike(plainly, (top, (one,))), True)
        for top, expected in [([1, 0, 1], False), ([2, 0, 1], True), ([1, 0, 2], False), ([1, 1, 1], False)]:
            top = polynomial(*[Fraction(number, sum(top)) for number in top])
            self.check(plainly, (top, (one,)), expected)

    def test_it_is_not_asked_whether_each_keeps_ends(self):
        wild = (polynomial(3), polynomial(1, 2))
        self.check(wild, wild, True)
        self.check(behind(wild, means), wild, True)
        self.check(wild, behind(wild, means), False)
        self.check(wild, plainly, False)
        self.check(plainly, wild, True)
        self.check(sums, sums, True)
        self.check(behind(sums, means), sums, True)
        self.check(sums, behind(sums, means), False)
        self.check(behind(sums, double), sums, False)
        self.check(sums, ((two,), (one, less)), False)
        self.check(plainly, sums, False)
        self.check(sums, plainly, False)
        # What differences serve at 0 all rows that settle are, and more.
        self.check(plainly, ((one, less), (one,)), False)
        self.check(((one, less), (one,)), plainly, False)
        self.check(((one, less), (one,)), ((one, less), (one,)), True)
        self.check(((one, (-2, 1), one), (one,)), ((one, less), (one,)), False)

    def test_common_parts_are_no_matter(self):
        self.check(((one, less), (one, less)), plainly, True)
        self.check(plainly, ((one, less), (one, less)), True)
        self.check(plainly, ((one, two, nil, one), (one, two, nil, one)), True)
        self.check((made_of([1, 1], [1, 2]), made_of([2], [1, 2])), means, True)

    def test_zeros_that_come_more_than_once(self):
        for often in range(4):
            for other_often in range(4):
                first = (made_of(*[[Fraction(1, 2), Fraction(1, 2)]] * often), (one,))
                second = (made_of(*[[Fraction(1, 2), Fraction(1, 2)]] * other_often), (one,))
                self.check(first, second, often >= other_often)
                self.assertIs(serve_alike(first, second), often == other_often)

    def test_any(self):
        source = random.Random(101)
        seen = []
        for _ in range(250):
            other = random_quotient(source)
            teller = random_quotient(source, source.choice([FAR, FACTORS]), delay=source.randint(0, 2))
            if source.randint(0, 3) > 0:
                teller = teller.times(other)
            expected = teller.over(other.undelayed()).straying()
            seen.append(expected)
            self.check(teller.pair(*random_shared(source)), other.pair(*random_shared(source)), expected is None)
        for word in ("pulse", "ones", None):
            self.assertGreater(seen.count(word), 30)

    def test_refusals(self):
        check_tellers_refused(self, serves_all, means)


class ServeAlike(unittest.TestCase):
    def check(self, teller, other, expected):
        self.assertIs(serve_alike(teller, other), expected)
        self.assertIs(serve_alike(other, teller), expected)
        self.assertIs(serve_alike(other=teller, teller=other), expected)

    def test_by_hand(self):
        self.check(means, means, True)
        self.check(means, threes, False)
        self.check(plainly, means, False)
        self.check(plainly, lag, True)
        self.check(lag, later, True)
        self.check(plainly, double, False)
        self.check(double, ((nil, two), (one,)), True)
        self.check(sums, ((nil, one), (one, less)), True)
        self.check(plainly, ((two, less), (one,)), True)
        self.check(plainly, ((less, two), (one,)), False)
        self.check(behind(means, means), means, False)

    def test_any(self):
        source = random.Random(102)
        seen = []
        for _ in range(200):
            teller = random_quotient(source)
            other = teller.times(random_quotient(source, FAR)) if source.randint(0, 2) else random_quotient(source)
            shared = [factor for factor in {**teller.often, **other.often}
                      if factor != Z and square_of_size(factor) <= 1]
            alike = all(teller.count(factor) == other.count(factor) for factor in shared)
            ratio = teller.over(other)
            seen.append(alike and ratio.worth(1) == 1)
            self.check(teller.pair(*random_shared(source)), other.pair(), seen[-1])
        self.assertGreater(min(seen.count(True), seen.count(False)), 40)

    def test_refusals(self):
        check_tellers_refused(self, serve_alike, means)


class Stray(unittest.TestCase):
    def test_by_hand(self):
        self.assertEqual(stray(lag, means), ((polynomial(2), polynomial(1, 1)), nil))
        self.assertEqual(stray(plainly, threes), ((polynomial(3), polynomial(1, 1, 1)), nil))
        self.assertEqual(stray(double, plainly), ((polynomial(1), polynomial(1, -1)), one))
        self.assertEqual(stray(plainly, double), ((polynomial(Fraction(1, 2)), polynomial(1, -1)), one))
        self.assertEqual(stray(sums, lag), (plainly, nil))
        self.assertEqual(stray(plainly, ((one, less), (one,))), (sums, nil))
        self.assertEqual(stray(((one, (-2, 1), one), (one,)), ((nil, one, less), (one,))),
                         ((polynomial(1), polynomial(1, -2, 1)), one))

    def test_the_row_shows_it(self):
        source = random.Random(103)
        seen = []
        for _ in range(300):
            other = random_quotient(source)
            teller = random_quotient(source, source.choice([FAR, FACTORS]))
            if source.randint(0, 3) > 0:
                teller = teller.times(other)
            word = teller.over(other.undelayed()).straying()
            found = stray(teller.pair(*random_shared(source)), other.pair(*random_shared(source)))
            seen.append(word)
            if word is None:
                self.assertIs(found, None)
                continue
            row, end = row_under(word, other)
            self.assertEqual(found, (row.plain(), end))
            # The other one serves it at this end, and the teller does not.
            self.assertEqual(other.times(row).end(), end)
            self.assertNotEqual(teller.times(row).end(), end)
        for word in ("pulse", "ones", None):
            self.assertGreater(seen.count(word), 30)

    def test_kinds_of_results(self):
        for found in (stray(lag, means), stray(double, plainly)):
            self.assertIs(type(found), tuple)
            row, end = found
            self.assertIs(type(row), tuple)
            self.assertEqual(len(row), 2)
            self.assertEqual([type(number) for number in end], [int, int])

    def test_refusals(self):
        check_tellers_refused(self, stray, means)


class BothAndEither(unittest.TestCase):
    def check(self, teller, other, least, most):
        self.assertEqual(both(teller, other), least)
        self.assertEqual(both(other, teller), least)
        self.assertEqual(both(other=teller, teller=other), least)
        self.assertEqual(either(teller, other), most)
        self.assertEqual(either(other, teller), most)
        self.assertEqual(either(other=teller, teller=other), most)

    def test_by_hand(self):
        self.check(means, means, means, means)
        self.check(plainly, means, plainly, means)
        self.check(fade, means, fade, means)
        self.check(fade, plainly, fade, plainly)
        quarter = ((polynomial(Fraction(3, 4)), polynomial(1, Fraction(-1, 4))))
        self.check(fade, quarter, (polynomial(Fraction(3, 8)), polynomial(1, Fraction(-3, 4), Fraction(1, 8))), plainly)
        twice = (polynomial(Fraction(1, 4), Fraction(1, 2), Fraction(1, 4)), (one,))
        self.check(twice, means, means, twice)
        wild = (polynomial(3), polynomial(1, 2))
        self.check(wild, plainly, wild, plainly)
        self.check(wild, means, wild, means)
        self.check(((two, less), (one,)), plainly, plainly, ((two, less), (one,)))

    def test_without_a_delay(self):
        self.check(lag, later, plainly, plainly)
        self.check(lag, lag, plainly, plainly)
        self.check(behind(lag, means), later, plainly, means)
        self.check(behind(lag, means), behind(later, means), means, means)
        self.check(lag, fade, fade, plainly)

    def test_nothing_but_powers_of_z_is_taken_out(self):
        near = (polynomial(-1, 2), (one,))
        far = (polynomial(2, -1), (one,))
        self.check(near, far, plainly, (polynomial(-2, 5, -2), (one,)))
        self.check(far, far, far, far)
        self.check(behind(far, lag), far, far, far)
        self.check(near, behind(near, lag), near, near)

    def test_plain_forms_are_made_fair(self):
        self.check(((one, one), (two,)), ((half, half), (one,)), means, means)
        self.check(((one, less), (one, less)), means, plainly, means)
        self.check(((less, less), ((-2, 1),)), ((one, one, one), ((3, 1),)), plainly, either(means, threes))
        self.check(((one, nil, less), (two, (-2, 1))), means, means, means)

    def test_any(self):
        source = random.Random(104)
        for _ in range(200):
            teller = random_fair(source)
            other = random_fair(source)
            if source.randint(0, 1):
                other = fair({**teller.often, **other.often})
            factors = [factor for factor in {**teller.often, **other.often} if factor != Z]
            least = fair({factor: min(teller.count(factor), other.count(factor)) for factor in factors})
            most = fair({factor: max(teller.count(factor), other.count(factor)) for factor in factors})
            given, beside = teller.pair(*random_shared(source)), other.pair(*random_shared(source))
            self.check(given, beside, least.plain(), most.plain())

    def test_what_they_serve(self):
        source = random.Random(105)
        for _ in range(60):
            teller, other = random_fair(source).pair(), random_fair(source).pair()
            least, most = both(teller, other), either(teller, other)
            for given in (teller, other):
                self.assertIs(serves_all(given, least), True)
                self.assertIs(serves_all(most, given), True)
            self.assertIs(serves_all(most, least), True)
            # What both serve a mixture of them serves, too.
            self.assertIs(serves_all(mixed(teller, other, (1, 3)), least), True)
            # Any fair teller that serves all that the one and all that the other one serves serves no less.
            further = either(either(teller, random_fair(source).pair()), other)
            self.assertIs(serves_all(further, teller) and serves_all(further, other), True)
            self.assertIs(serves_all(further, most), True)

    def test_fair_tellers_tell_one_end(self):
        # Of a row by a recurrence that both serve both tell the end that the least one tells.
        source = random.Random(106)
        served = 0
        for _ in range(300):
            teller, other = random_fair(source), random_fair(source)
            often = {factor: -max(teller.count(factor), 0) for factor in FACTORS}
            row = Quotient(source.randint(1, 3), {**often, AT_ONE: -source.randint(0, 1)})
            ends = [teller.times(row).end(), other.times(row).end()]
            if None not in ends:
                served += 1
                self.assertEqual(ends[0], ends[1])
                least = quotient_of(both(teller.pair(), other.pair()))
                self.assertEqual(Fraction(sum(least[0]), sum(least[1])), 1)
        self.assertGreater(served, 30)

    def test_not_fair_comes_last(self):
        unfair = [sums, double, ((one, less), (one,)), ((less,), (one,)), ((one, (-2, 1), one), (one, less)),
                  ((half,), (one, one))]
        for call in (both, either):
            for teller in unfair:
                for other in (means, sums, teller):
                    for first, second in ((teller, other), (other, teller)):
                        with self.assertRaises(NotFair) as caught:
                            call(first, second)
                        self.assertEqual(vars(caught.exception), {})
                        with self.assertRaises(NotFair):
                            call(other=second, teller=first)

    def test_refusals(self):
        for call in (both, either):
            check_tellers_refused(self, call, means)
            check_tellers_refused(self, call, sums)


class Conventions(unittest.TestCase):
    def test_what_was_returned_may_be_passed(self):
        long = (polynomial(*[Fraction(1, 60)] * 60), (one,))
        other = (polynomial(*[Fraction(1, 59)] * 59), (one,))
        most = either(long, other)
        self.assertEqual(len(most[0]), 118)
        self.assertIs(serves_all(most, long), True)
        self.assertIs(serves_all(long, most), False)
        self.assertEqual(both(most, long), long)
        self.assertEqual(either(most, other), most)
        row, end = stray(long, most)
        self.assertEqual(end, nil)
        self.assertEqual(plain(row), row)
        great = (((GREAT, 1), (1 - GREAT, 1)), (one,))
        self.assertIs(serve_alike(great, plainly), True)
        self.assertEqual(both(great, behind(great, fade)), behind(great, fade))

    def test_equal_calls_return_equal_results(self):
        for _ in range(2):
            self.assertEqual(stray(lag, means), stray(lag, ((half, half), (one,))))
            self.assertEqual(either(means, threes), either(means, threes))
        self.assertEqual(fair({AT_LESS: 1}).plain(), means)


if __name__ == "__main__":
    unittest.main()
