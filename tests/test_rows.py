"""Rows by recurrences: points [12] to [14], [10] for served ends, and the heading of rows."""

import random
import unittest
from fractions import Fraction
from itertools import accumulate

from endtellers.errors import InvalidFraction, InvalidNumber, InvalidRow, InvalidTeller
from endtellers.keeping import keeps_settling
from endtellers.polynomials import common_part, is_polynomial
from endtellers.rows import (
    are_same_rows, end_of, is_row, led_row, numbers_of, plain_row, row_sum, row_times, served_end, settles_by,
    steps_of, sums_of,
)
from endtellers.serving import stray
from endtellers.tellers import told
from tests import making
from tests.making import NOTHING, WRONG_FRACTIONS, WRONG_ROWS, WRONG_SHARES, WRONG_TELLERS, made_of, pair, polynomial
from tests.quotients import AT_LESS, AT_ONE, FACTORS, Quotient, Z, random_quotient, random_shared, series
from tests.refusals import check_refused, given

nil, half, one, two, less = (0, 1), (1, 2), (1, 1), (2, 1), (-1, 1)
GREAT = 10 ** 399
turn, ones, pulse = ((one,), (one, one)), ((one,), (one, less)), ((one,), (one,))
near, climb = ((two, (-3, 2)), (one, (-3, 2), half)), ((one,), (one, (-2, 1), one))
twice = ((one,), (one, less, (1, 4)))
means = ((half, half), (one,))
NOUGHT = ((), (one,))
NOUGHTS = [NOUGHT, ((), (two,)), ((), (one, less)), ((), ((-1, 3), one, one)), ((), ((GREAT, 1), (1, GREAT)))]


def fractions_of(row, many=40):
    """The first numbers of a row as numbers."""
    return making.numbers_of(numbers_of(row, many))


def random_row(source, factors=None):
    """A quotient of some factors, and a pair with its numbers."""
    quotient = random_quotient(source, factors)
    return quotient, quotient.pair(*random_shared(source))


class IsRow(unittest.TestCase):
    def test_rows(self):
        for row in [turn, ones, pulse, near, climb, twice, *NOUGHTS, ((nil, nil, one), (one,)),
                    (((GREAT, 1),) * 60, ((1, GREAT),) * 60), ((less,), (one, nil, nil, one)), means]:
            self.assertIs(is_row(row), True)
            self.assertIs(is_row(value=row), True)

    def test_no_rows(self):
        for value in WRONG_ROWS:
            self.assertIs(is_row(value), False)
            self.assertIs(is_row(value=value), False)
        for value in making.WRONG_POLYNOMIALS:
            if not (isinstance(value, tuple) and len(value) == 0):
                self.assertIs(is_row((value, (one,))), False)
            self.assertIs(is_row(((one,), value)), False)
            self.assertIs(is_row(((), value)), False)


class PlainRow(unittest.TestCase):
    def check(self, row, expected):
        for _ in range(2):
            self.assertEqual(plain_row(row), expected)
            self.assertEqual(plain_row(row=row), expected)
        self.assertEqual(plain_row(expected), expected)
        self.assertIs(are_same_rows(row, expected), True)
        self.assertIs(is_row(expected), True)

    def test_by_hand(self):
        self.check(((one, one), (one, nil, less)), ones)
        self.check(((two, two), (two, two)), pulse)
        self.check(((two,), ((-2, 1), (-2, 1))), ((less,), (one, one)))
        self.check(((nil, one, less), (one, less)), ((nil, one), (one,)))
        self.check(((nil, one), (two, (4, 1))), ((nil, half), (one, two)))
        self.check((((GREAT, 1),), ((GREAT, 1), (-GREAT, 1))), ones)

    def test_nought(self):
        for row in NOUGHTS:
            self.check(row, NOUGHT)

    def test_any(self):
        source = random.Random(201)
        for _ in range(150):
            quotient, row = random_row(source)
            self.check(row, quotient.plain())
            top, under = plain_row(row)
            self.assertEqual(common_part(top, under), (one,))
            self.assertEqual(under[0], one)


class NumbersOf(unittest.TestCase):
    def test_by_hand(self):
        self.assertEqual(numbers_of(ones, 3), (one, one, one))
        self.assertEqual(numbers_of(climb, 4), ((1, 1), (2, 1), (3, 1), (4, 1)))
        self.assertEqual(numbers_of(twice, 4), ((1, 1), (1, 1), (3, 4), (1, 2)))
        self.assertEqual(numbers_of(((nil, nil, half), (one,)), 4), (nil, nil, half, nil))
        self.assertEqual(numbers_of(((one,), (two, less)), 3), ((1, 2), (1, 4), (1, 8)))
        self.assertEqual(numbers_of(((one,), (one, less, less)), 8), tuple((n, 1) for n in (1, 1, 2, 3, 5, 8, 13, 21)))
        self.assertEqual(numbers_of(((one,), ((-1, GREAT),)), 2), ((-GREAT, 1), nil))

    def test_so_many(self):
        for row in (near, climb, pulse, NOUGHT, ((one,) * 50, (one,))):
            all_of_them = numbers_of(row, 40)
            self.assertEqual(len(all_of_them), 40)
            for number in range(1, 41):
                self.assertEqual(numbers_of(row, number), all_of_them[:number])
                self.assertEqual(numbers_of(number=number, row=row), all_of_them[:number])

    def test_nought(self):
        for row in NOUGHTS:
            self.assertEqual(numbers_of(row, 5), (nil,) * 5)

    def test_any(self):
        source = random.Random(202)
        for _ in range(100):
            quotient, row = random_row(source)
            self.assertEqual(fractions_of(row), series(*quotient.lists(), 40))

    def test_what_the_recurrence_says(self):
        source = random.Random(203)
        for _ in range(40):
            _, row = random_row(source)
            tops, unders = making.numbers_of(row[0]), making.numbers_of(row[1])
            numbers = fractions_of(row, 20)
            for at in range(20):
                told_there = sum(unders[back] * numbers[at - back] for back in range(min(at + 1, len(unders))))
                self.assertEqual(told_there, tops[at] if at < len(tops) else 0)


class AreSame(unittest.TestCase):
    def check(self, row, other, expected):
        self.assertIs(are_same_rows(row, other), expected)
        self.assertIs(are_same_rows(other, row), expected)
        self.assertIs(are_same_rows(other=other, row=row), expected)

    def test_by_hand(self):
        self.check(ones, ((two, two), (two, nil, (-2, 1))), True)
        self.check(ones, turn, False)
        self.check(ones, ((two,), (one, less)), False)
        self.check(ones, ((less,), (less, one)), True)
        self.check(NOUGHT, ((), (one, one)), True)
        self.check(NOUGHT, pulse, False)
        self.check(NOUGHT, ((nil, nil, one), (one,)), False)

    def test_unlike_at_the_last_number_that_counts(self):
        # With TOP and UNDER' of the degrees 1 and 2 together 3, and more, the numbers 0 to 3 tell both apart.
        first, second = ((one, nil, nil, one), (one,)), ((one,), (one,))
        self.assertEqual(numbers_of(first, 3), numbers_of(second, 3))
        self.check(first, second, False)
        late = (polynomial(*[1] * 59, 2), (one,))
        self.assertEqual(numbers_of(late, 40), numbers_of(ones, 40))
        self.check(late, ones, False)

    def test_exactly_if_so_many_numbers_are_the_same(self):
        source = random.Random(204)
        few = [AT_ONE, AT_LESS, (-2, 1), (1, 0, 1)]
        seen = []
        for _ in range(200):
            first = random_quotient(source, few, 1, 1)
            second = random_quotient(source, few, 1, 1)
            if source.randint(0, 2) == 0:
                second = first
            row, other = first.pair(*random_shared(source)), second.pair(*random_shared(source))
            many = max(len(row[0]) + len(other[1]), len(other[0]) + len(row[1])) - 1
            seen.append(numbers_of(row, many) == numbers_of(other, many))
            self.check(row, other, seen[-1])
        self.assertGreater(min(seen.count(True), seen.count(False)), 40)


class MadeOfOthers(unittest.TestCase):
    def check_plain(self, row, numbers):
        self.assertEqual(fractions_of(row, len(numbers)), numbers)
        self.assertEqual(plain_row(row), row)

    def test_sums_and_multiples(self):
        source = random.Random(205)
        for _ in range(80):
            first, row = random_row(source)
            second, other = random_row(source)
            if source.randint(0, 4) == 0:
                other = NOUGHTS[source.randint(0, 4)]
            fraction = Fraction(source.randint(-4, 4), source.randint(1, 4))
            both = [low + high for low, high in zip(fractions_of(row), fractions_of(other))]
            self.check_plain(row_sum(row, other), both)
            self.assertEqual(row_sum(other=other, row=row), row_sum(other, row))
            self.check_plain(row_times(row, pair(fraction)), [fraction * number for number in fractions_of(row)])
            self.assertEqual(row_times(fraction=pair(fraction), row=row), row_times(row, pair(fraction)))
            self.assertEqual(row_sum(row, row_times(row, less)), NOUGHT)

    def test_nought(self):
        for row in NOUGHTS:
            self.assertEqual(row_sum(row, row), NOUGHT)
            self.assertEqual(row_sum(row, near), near)
            self.assertEqual(row_sum(near, row), near)
            self.assertEqual(row_times(row, two), NOUGHT)
            self.assertEqual(row_times(near, nil), NOUGHT)
            self.assertEqual(led_row(means, row), NOUGHT)
            self.assertEqual(sums_of(row), NOUGHT)
            self.assertEqual(steps_of(row), NOUGHT)

    def test_led(self):
        source = random.Random(206)
        for _ in range(80):
            _, teller = random_row(source)
            _, row = random_row(source)
            found = led_row(teller, row)
            self.assertEqual(led_row(row=row, teller=teller), found)
            self.check_plain(found, making.numbers_of(told(teller, numbers_of(row, 40))))

    def test_led_takes_out_what_is_common(self):
        self.assertEqual(led_row(means, turn), (((1, 2),), (one,)))
        self.assertEqual(led_row(((one, less), (one,)), ones), pulse)
        self.assertEqual(led_row(ones, ((one, less), (one,))), pulse)
        self.assertEqual(led_row(((nil, one), (one,)), near), ((nil,) + near[0], near[1]))

    def test_sums_and_steps(self):
        source = random.Random(207)
        for _ in range(80):
            quotient, row = random_row(source)
            numbers = fractions_of(row)
            self.check_plain(sums_of(row), list(accumulate(numbers)))
            self.check_plain(steps_of(row), numbers[:1] + [high - low for low, high in zip(numbers, numbers[1:])])
            self.assertEqual(sums_of(steps_of(row)), quotient.plain())
            self.assertEqual(steps_of(sums_of(row=row)), quotient.plain())
            self.assertEqual(steps_of(row=row), steps_of(quotient.plain()))

    def test_sums_and_steps_by_hand(self):
        self.assertEqual(sums_of(pulse), ones)
        self.assertEqual(sums_of(ones), climb)
        self.assertEqual(steps_of(climb), ones)
        self.assertEqual(steps_of(pulse), ((one, less), (one,)))


class Ends(unittest.TestCase):
    def check(self, row, expected):
        for _ in range(2):
            self.assertEqual(end_of(row), expected)
            self.assertEqual(end_of(row=row), expected)

    def test_by_hand(self):
        self.check(near, one)
        self.check(turn, None)
        self.check(climb, None)
        self.check(twice, nil)
        self.check(pulse, nil)
        self.check(ones, one)
        self.check(((one,), (one, (-2, 1))), None)
        self.check(((one, one), (one,)), nil)
        self.check(((one,) * 60, (one,)), nil)
        self.check((((1, 3),), (two, less, less)), (1, 9))
        self.check(((one,), (one, nil, one)), None)
        self.check(((one,), made_of([1, -1], [1, 1])), None)

    def test_nought(self):
        for row in NOUGHTS:
            self.check(row, nil)

    def test_zeros_of_under_that_the_plain_form_has_not(self):
        self.check(((one, one), (one, one)), nil)
        self.check(((one, one), made_of([1, 1], [1, -1])), one)
        self.check(((one, less), made_of([1, -1], [1, -1])), one)
        self.check(((one, less), made_of([1, -1], [1, -1], [1, -1])), None)
        self.check((made_of([1, -1], [1, -1]), made_of([1, -1], [2, 1])), nil)
        self.check((made_of([1, -2], [3]), made_of([1, -1], [1, -2])), (3, 1))

    def test_near_the_circle(self):
        for zero, expected in [(Fraction(GREAT + 1, GREAT), nil), (Fraction(-GREAT - 1, GREAT), nil),
                               (Fraction(-1), None),
                               (Fraction(GREAT - 1, GREAT), None), (Fraction(1 - GREAT, GREAT), None)]:
            self.check((polynomial(1), polynomial(zero, -1)), expected)
            whole = None if expected is None else pair(1 / (zero - 1))
            self.check((polynomial(1), made_of([zero, -1], [1, -1])), whole)

    def test_any(self):
        source = random.Random(208)
        seen = []
        for _ in range(400):
            quotient = random_quotient(source, source.choice([None, [(-2, 1), (2, 1), (4, 1, 1)]]))
            quotient = quotient.times(Quotient(1, {AT_ONE: -source.randint(0, 1)}))
            seen.append(quotient.end())
            self.check(quotient.pair(*random_shared(source)), seen[-1])
        self.assertGreater(seen.count(None), 60)
        self.assertGreater(seen.count(nil), 60)
        self.assertGreater(len(seen) - seen.count(None) - seen.count(nil), 40)

    def test_numbers_come_near_the_end(self):
        source = random.Random(209)
        far = [(-2, 1), (2, 1), (4, 1, 1), (4, -1, 1), (-3, 1)]
        for _ in range(60):
            quotient = random_quotient(source, far, 1).times(Quotient(1, {AT_ONE: -source.randint(0, 1)}))
            end = end_of(quotient.pair())
            self.assertLess(abs(fractions_of(quotient.pair())[-1] - Fraction(*end)), Fraction(1, 1000))

    def test_ends_of_sums_and_multiples(self):
        source = random.Random(210)
        far = [(-2, 1), (2, 1), (4, 1, 1), (Fraction(-3, 2), 1)]
        for _ in range(60):
            rows = []
            for _ in range(2):
                rows.append(random_quotient(source, far).times(Quotient(1, {AT_ONE: -source.randint(0, 1)})).pair())
            ends = [Fraction(*end_of(row)) for row in rows]
            self.check(row_sum(*rows), pair(sum(ends)))
            self.check(row_times(rows[0], (-2, 3)), pair(ends[0] * Fraction(-2, 3)))
            self.check(row_sum(rows[0], turn), None)
            self.check(steps_of(rows[0]), nil)

    def test_long_rows(self):
        self.check((polynomial(*range(1, 61)), polynomial(*range(60, 0, -1))), nil)
        self.check((polynomial(*range(1, 61)), polynomial(*range(1, 61))), nil)
        self.check((polynomial(1), polynomial(*range(1, 61))), None)
        self.check((polynomial(1), made_of([1, -1], list(range(60, 0, -1)))), pair(Fraction(1, 30 * 61)))


class SettlesBy(unittest.TestCase):
    def check(self, row, share, expected):
        self.assertIs(settles_by(row, pair(share)), expected)
        self.assertIs(settles_by(fraction=pair(share), row=row), expected)

    def test_by_hand(self):
        self.check(near, Fraction(1, 2), True)
        self.check(near, Fraction(1, 3), False)
        self.check(near, Fraction(2, 3), True)
        self.check(twice, Fraction(1, 2), False)
        self.check(twice, Fraction(501, 1000), True)
        for share in (Fraction(1, GREAT), Fraction(1, 2), Fraction(GREAT, GREAT + 1)):
            for row in (pulse, ones, NOUGHT, ((), (one, one)), ((one,) * 9, (one,)), ((one, one), (one, nil, less))):
                self.check(row, share, True)
            for row in (turn, climb, ((one,), (one, two)), ((one,), (one, nil, one)),
                        ((one,), made_of([1, -1], [1, 1]))):
                self.check(row, share, False)

    def test_at_the_rim(self):
        third = Fraction(1, 3)
        # Of just the size 3: real ones, at the rim's own real place and opposite to it, and others.
        for factors, expected in [
            ([[3, -1]], True), ([[3, 1]], True), ([[9, 0, 1]], True), ([[9, 1, 1]], True), ([[3, -1], [3, 1]], True),
            ([[3, -1], [3, 1], [9, 0, 1], [9, 1, 1], [9, -5, 1]], True), ([[3, -1], [3, -1]], False),
            ([[3, 1], [3, 1]], False), ([[9, 0, 1], [9, 0, 1]], False), ([[9, 1, 1], [9, 1, 1], [3, -1]], False),
            ([[3, -1], [3, -1], [3, 1]], False), ([[3, 1], [3, 1], [9, 0, 1], [4, 1]], False),
        ]:
            for more, beside in [([], True), ([[1, -1]], True), ([[1, -1], [1, -1]], False), ([[4, 1]], True),
                                 ([[4, 1], [4, 1], [1, -1]], True), ([[2, 1]], False), ([[1, 1]], False)]:
                row = (polynomial(1), made_of(*factors, *more))
                self.check(row, third, expected and beside)
            row = (polynomial(1), made_of(*factors, [1, -1]))
            self.check(row, Fraction(10 ** 60 + 1, 3 * 10 ** 60), True)
            self.check(row, Fraction(10 ** 60 - 1, 3 * 10 ** 60), False)

    def test_common_parts_are_no_matter(self):
        self.check((made_of([3, -1]), made_of([3, -1], [3, -1])), Fraction(1, 3), True)
        self.check((made_of([9, 0, 1]), made_of([9, 0, 1], [2, 1], [9, 0, 1])), Fraction(1, 3), False)
        self.check((made_of([9, 0, 1], [2, 1]), made_of([9, 0, 1], [2, 1], [9, 0, 1])), Fraction(1, 3), True)
        self.check((made_of([1, -1], [1, 1]), made_of([1, -1], [1, -1], [1, 1])), Fraction(1, 3), True)

    def test_any(self):
        source = random.Random(211)
        seen = []
        factors = [AT_ONE, (-2, 1), (2, 1), (4, 1, 1), (4, 0, 1), (Fraction(9, 4), -1, 1), (Fraction(-3, 2), 1), (3, 1)]
        for _ in range(400):
            quotient, row = random_row(source, factors)
            share = source.choice([Fraction(1, 2), Fraction(2, 3), Fraction(1, 3), Fraction(3, 5), Fraction(4, 5)])
            seen.append(quotient.settles_by(share))
            self.check(row, share, seen[-1])
            if seen[-1]:
                self.assertIsNotNone(end_of(row))
        self.assertGreater(min(seen.count(True), seen.count(False)), 80)

    def test_the_numbers(self):
        # Those of twice are n + 1 powers of 1 / 2, so no C is great enough for this share.
        self.assertEqual(fractions_of(twice), [Fraction(at + 1, 2 ** at) for at in range(40)])
        for row, share in [(near, Fraction(1, 2)), (((one,), (one, nil, (1, 4))), Fraction(1, 2))]:
            end = Fraction(*end_of(row))
            self.assertLessEqual(max(abs(number - end) / share ** at for at, number in enumerate(fractions_of(row))), 1)
            self.check(row, share, True)

    def test_some_share_exactly_if_it_settles(self):
        source = random.Random(212)
        for _ in range(100):
            _, row = random_row(source)
            self.check(row, Fraction(10 ** 40 - 1, 10 ** 40), end_of(row) is not None)


class ServedEnd(unittest.TestCase):
    def check(self, teller, row, expected):
        self.assertEqual(served_end(teller, row), expected)
        self.assertEqual(served_end(row=row, teller=teller), expected)

    def test_by_hand(self):
        self.check(means, turn, nil)
        self.check(means, climb, None)
        self.check(means, near, one)
        self.check(pulse, near, one)
        self.check(((two,), (one,)), near, two)
        self.check(means, sums_of(turn), half)
        self.check(((one, less), (one,)), climb, one)
        self.check(((one, less), (one,)), turn, None)

    def test_tellers_that_do_not_keep_settling(self):
        sums = ((one,), (one, less))
        self.assertIs(keeps_settling(sums), False)
        self.check(sums, ((one, less), (one,)), nil)
        self.check(sums, ((half,), (one, (-1, 2))), one)
        self.check(sums, ones, None)
        self.check(sums, steps_of(near), one)
        wild = ((one,), (one, two))
        self.check(wild, pulse, None)
        self.check(wild, ((one, two), (one,)), nil)
        self.check(wild, ((one, two), (one, less)), one)
        self.check(wild, ones, None)
        self.check(((one,), (one, nil, one)), ((one, nil, one), (one, less)), one)

    def test_nought(self):
        for row in NOUGHTS:
            self.check(((one,), (one, two)), row, nil)
            self.check(means, row, nil)

    def test_any(self):
        source = random.Random(213)
        seen = []
        for _ in range(300):
            teller = random_quotient(source)
            row = random_quotient(source)
            if source.randint(0, 2):
                # The row takes off the poles of the teller.
                row = Quotient(1, {factor: -many for factor, many in teller.often.items() if factor != Z})
                row = row.times(random_quotient(source, [(-2, 1), (4, 1, 1)], 1))
                row = row.times(Quotient(1, {AT_ONE: -source.randint(0, 1)}))
            expected = teller.times(row).end()
            if not teller.is_free(1):
                seen.append(expected)
            self.check(teller.pair(*random_shared(source)), row.pair(*random_shared(source)), expected)
        self.assertGreater(seen.count(None), 20)
        self.assertGreater(len(seen) - seen.count(None), 40)

    def test_rows_that_show_what_tellers_lack(self):
        source = random.Random(214)
        found = 0
        for _ in range(60):
            teller, other = random_quotient(source).pair(), random_quotient(source).pair()
            shown = stray(teller, other)
            if shown is not None:
                row, end = shown
                found += 1
                self.check(other, row, end)
                self.assertNotEqual(served_end(teller, row), end)
        self.assertGreater(found, 20)


class Refusals(unittest.TestCase):
    def test_one_row(self):
        for call in (plain_row, sums_of, steps_of, end_of):
            check_refused(self, call, ["row"], [near], [given(InvalidRow, WRONG_ROWS)])

    def test_two_rows(self):
        for call in (are_same_rows, row_sum):
            wrong = given(InvalidRow, WRONG_ROWS)
            check_refused(self, call, ["row", "other"], [near, NOUGHT], [wrong, wrong])

    def test_tellers(self):
        for call in (led_row, served_end):
            wrongs = [given(InvalidTeller, WRONG_TELLERS), given(InvalidRow, WRONG_ROWS)]
            check_refused(self, call, ["teller", "row"], [means, NOUGHT], wrongs)

    def test_numbers(self):
        wrongs = [given(InvalidRow, WRONG_ROWS), given(InvalidNumber, making.wrong_wholes(1, 40))]
        for number in (1, 40):
            check_refused(self, numbers_of, ["row", "number"], [near, number], wrongs)

    def test_fractions(self):
        wrongs = [given(InvalidRow, WRONG_ROWS), given(InvalidFraction, WRONG_FRACTIONS)]
        for fraction in (nil, less, half, (GREAT, 1)):
            check_refused(self, row_times, ["row", "fraction"], [near, fraction], wrongs)

    def test_shares(self):
        wrongs = [given(InvalidRow, WRONG_ROWS), given(InvalidFraction, WRONG_SHARES)]
        for fraction in (half, (1, GREAT), (GREAT - 1, GREAT)):
            check_refused(self, settles_by, ["row", "fraction"], [near, fraction], wrongs)
            check_refused(self, settles_by, ["row", "fraction"], [turn, fraction], wrongs)


class Conventions(unittest.TestCase):
    def test_what_was_returned_may_be_passed(self):
        long = (polynomial(*[Fraction(1, at) for at in range(1, 61)]), made_of([1, -1], list(range(60, 1, -1))))
        row = row_sum(long, (polynomial(1), polynomial(*range(50, 1, -1))))
        self.assertIs(is_row(row), True)
        self.assertGreater(len(row[1]), 100)
        self.assertEqual(end_of(row), end_of(long))
        self.assertEqual(row_sum(row, row_times(long, less)), plain_row((polynomial(1), polynomial(*range(50, 1, -1)))))
        self.assertIs(settles_by(row, half), False)
        self.assertEqual(sums_of(steps_of(row)), row)

    def test_all_is_made_of_tuples(self):
        found = [plain_row(near), row_sum(near, turn), row_times(near, half), led_row(means, near), sums_of(near),
                 steps_of(near), plain_row(NOUGHT)]
        for row in found:
            self.assertIs(type(row), tuple)
            self.assertTrue(row[0] == () or is_polynomial(row[0]))
            self.assertTrue(is_polynomial(row[1]))

    def test_factors_of_every_size(self):
        # One zero of UNDER, or two that are not real, and what this is for settling.
        for factor in FACTORS:
            quotient = Quotient(1, {factor: -1})
            self.assertEqual(end_of(quotient.pair()), quotient.end())

    def test_nothing_else_is_a_row(self):
        self.assertTrue(all(is_row(value) is False for value in NOTHING))


if __name__ == "__main__":
    unittest.main()
