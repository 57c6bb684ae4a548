"""Keeping: point [9] and the heading of keeping."""

import random
import unittest
from fractions import Fraction

from endtellers.errors import InvalidFraction
from endtellers.keeping import keeps_ends, keeps_settling, keeps_share, straying
from endtellers.tellers import behind, told, weights_of
from tests.making import NOT_ABOVE_NOUGHT, WRONG_FRACTIONS, made_of, numbers_of, pair, polynomial
from tests.quotients import Quotient, Z, random_quotient, random_shared
from tests.refusals import check_given, check_teller_refused

nil, half, one, two, less = (0, 1), (1, 2), (1, 1), (2, 1), (-1, 1)
GREAT = 10 ** 399
means, fade, lag = ((half, half), (one,)), ((half,), (one, (-1, 2))), ((nil, one), (one,))
sums, double = ((one,), (one, less)), ((two,), (one,))
WRONG_SHARES = WRONG_FRACTIONS + NOT_ABOVE_NOUGHT + [
    one, two, (3, 2), (GREAT, 1), (GREAT + 1, GREAT), (1000, 999), (-1, 2), (-2, 3), (-1, 1),
]


class Keeping(unittest.TestCase):
    def check(self, teller, settling, word):
        for _ in range(2):
            self.assertIs(keeps_settling(teller), settling)
            self.assertIs(keeps_settling(teller=teller), settling)
            self.assertIs(keeps_ends(teller), word is None)
            self.assertIs(keeps_ends(teller=teller), word is None)
            self.assertEqual(straying(teller), word)
            self.assertEqual(straying(teller=teller), word)

    def test_without_under(self):
        self.check(means, True, None)
        self.check(lag, True, None)
        self.check(((one,), (one,)), True, None)
        self.check(((nil, nil, two, less), (one,)), True, None)
        self.check(((two, (-3, 1), two), (one,)), True, None)
        self.check(((one, less), (one,)), True, "ones")
        self.check(((less,), (one,)), True, "ones")
        self.check(((half, half), (less,)), True, "ones")
        self.check((((GREAT, 1),), (one,)), True, "ones")

    def test_one_zero_of_under(self):
        for zero, settling in [(2, True), (-2, True), (1, False), (-1, False), (Fraction(1, 2), False),
                               (Fraction(-1, 3), False), (Fraction(GREAT + 1, GREAT), True),
                               (Fraction(-GREAT - 1, GREAT), True), (Fraction(GREAT, GREAT + 1), False)]:
            under = polynomial(zero, -1)
            self.check(((one,), under), settling, "ones" if settling and zero != 2 else None if settling else "pulse")
            if zero != 1:
                fair = (polynomial(zero - 1), under)
                self.check(fair, settling, None if settling else "pulse")

    def test_zeros_that_are_not_real(self):
        self.check((polynomial(2), polynomial(1, 0, 1)), False, "pulse")
        self.check((polynomial(3), polynomial(1, 1, 1)), False, "pulse")
        self.check((polynomial(6), polynomial(4, 1, 1)), True, None)
        self.check((polynomial(5), polynomial(4, 1, 1)), True, "ones")
        self.check((polynomial(1), polynomial(4, 1, 1, 4)), False, "pulse")
        self.check((polynomial(Fraction(2, 5)), polynomial(1, Fraction(-8, 5), 1)), False, "pulse")
        self.check((polynomial(Fraction(21, 10)), polynomial(Fraction(11, 10), 0, 1)), True, None)
        self.check((polynomial(Fraction(19, 10)), polynomial(Fraction(9, 10), 0, 1)), False, "pulse")

    def test_zeros_of_under_that_the_plain_form_has_not(self):
        self.check(((one, one), (one, one)), True, None)
        self.check(((one, less), (one, less)), True, None)
        self.check(((one, (-2, 1), one), (one, less)), True, "ones")
        self.check(((one, less), (one, (-2, 1), one)), False, "pulse")
        self.check(((half, nil, (-1, 2)), (one, less)), True, None)
        self.check((made_of([1, 0, 1], [1, 1]), made_of([1, 0, 1], [2])), True, None)
        self.check((made_of([1, 0, 1], [1, 1]), made_of([1, 0, 1], [1, 0, 1])), False, "pulse")
        self.check((made_of([0, 1], [1, 3]), made_of([1, 3], [2, -1])), True, None)

    def test_a_zero_at_one_above_and_below(self):
        # The told row of sums of differences comes back; differences of it are nought at the end.
        self.check(((one, less), (one, less, nil, less)), False, "pulse")
        self.check(((one, nil, nil, less), ((3, 1), (-3, 1))), True, None)
        self.check(((one, nil, nil, less), (one, less)), True, "ones")

    def test_any(self):
        source = random.Random(91)
        seen = []
        for _ in range(300):
            quotient = random_quotient(source)
            seen.append(quotient.straying())
            self.check(quotient.pair(*random_shared(source)), quotient.is_free(1), seen[-1])
        for word in ("pulse", "ones", None):
            self.assertGreater(seen.count(word), 30)

    def test_the_told_rows(self):
        source = random.Random(92)
        far = [(-2, 1), (2, 1), (4, 1, 1), (4, -1, 1), (-3, 1)]
        near = [(Fraction(1, 2), 1), (Fraction(-1, 3), 1), (Fraction(1, 4), 0, 1)]
        ones = tuple([one] * 60)
        for _ in range(60):
            quotient = random_quotient(source, far, 1)
            teller = quotient.pair()
            self.assertLess(max(map(abs, numbers_of(weights_of(teller, 40))[-3:])), Fraction(1, 1000))
            last = numbers_of(told(teller, ones))[-1]
            self.assertEqual(abs(last - 1) < Fraction(1, 1000), straying(teller) is None)
            stray = quotient.times(Quotient(1, {source.choice(near): -1})).pair()
            self.assertGreater(max(map(abs, numbers_of(weights_of(stray, 40))[-3:])), 1)
            self.assertEqual(straying(stray), "pulse")

    def test_what_is_told_settles_at_the_quotient_at_one(self):
        teller = (polynomial(3, 1), (two, less))
        found = numbers_of(told(teller, tuple([(2, 5)] * 60)))[-1]
        self.assertLess(abs(found - Fraction(8, 5)), Fraction(1, 1000))
        self.assertEqual(straying(teller), "ones")

    def test_large_ones(self):
        long = (polynomial(*[Fraction(1, 60)] * 60), (one,))
        self.check(long, True, None)
        self.check((polynomial(821), polynomial(*range(40, 0, -1))), True, "ones")
        self.check((polynomial(820), polynomial(*range(40, 0, -1))), True, None)
        self.check((polynomial(820), polynomial(*range(1, 41))), False, "pulse")
        self.check(behind(long, behind(fade, long)), True, None)
        self.check((((GREAT, 1),), ((GREAT, 1),)), True, None)
        self.check((((1, GREAT),), ((GREAT + 1, GREAT), less)), True, None)
        self.check((((1, GREAT),), ((GREAT - 1, GREAT), less)), False, "pulse")

    def test_refusals(self):
        for call in (keeps_settling, keeps_ends, straying):
            check_teller_refused(self, call)


class KeepsShare(unittest.TestCase):
    def check(self, teller, share, expected):
        self.assertIs(keeps_share(teller, pair(share)), expected)
        self.assertIs(keeps_share(fraction=pair(share), teller=teller), expected)

    def test_without_under(self):
        for teller in (means, lag, double, ((one, less), (one,)), ((one, less), (one, less))):
            for share in (Fraction(1, 2), Fraction(1, GREAT), Fraction(GREAT, GREAT + 1)):
                self.check(teller, share, True)

    def test_just_below_at_and_above(self):
        for size in (Fraction(2), Fraction(3, 2), Fraction(100), Fraction(GREAT, 3), Fraction(GREAT + 1, GREAT)):
            tiny = Fraction(1, 10 ** 800)
            for under in ([size, 1], [-size, 1], [size ** 2, 0, 1], [size ** 2, size, 1], [size ** 2, -size, 1]):
                teller = (polynomial(3, 1), polynomial(*under))
                self.check(teller, 1 / size - tiny, False)
                self.check(teller, 1 / size, False)
                self.check(teller, 1 / size + tiny, True)

    def test_only_the_nearest_zero_counts(self):
        teller = (polynomial(1), made_of([2, 1], [-3, 1], [16, 0, 1]))
        self.check(teller, Fraction(1, 4), False)
        self.check(teller, Fraction(1, 3), False)
        self.check(teller, Fraction(1, 2), False)
        self.check(teller, Fraction(51, 100), True)

    def test_it_need_not_be_fair_but_keeps_settling(self):
        self.check((polynomial(7), polynomial(4, 1)), Fraction(1, 3), True)
        self.check(sums, Fraction(99, 100), False)
        self.check(((one,), (one, two)), Fraction(99, 100), False)
        self.check((polynomial(1), polynomial(1, 0, 1)), Fraction(99, 100), False)

    def test_zeros_of_under_that_the_plain_form_has_not(self):
        self.check((made_of([2, 1], [3]), made_of([2, 1])), Fraction(1, 3), True)
        self.check((made_of([2, 1], [3]), made_of([2, 1], [2, 1])), Fraction(1, 2), False)
        self.check((made_of([2, 1], [3]), made_of([2, 1], [4, 1])), Fraction(1, 3), True)
        self.check((made_of([2, 1], [3]), made_of([2, 1], [4, 1])), Fraction(1, 4), False)

    def test_any(self):
        source = random.Random(93)
        seen = []
        factors = [(-2, 1), (2, 1), (4, 1, 1), (Fraction(-3, 2), 1), (Fraction(9, 4), -1, 1), (9, 0, 1), (3, 1)]
        for _ in range(300):
            quotient = random_quotient(source, factors if source.randint(0, 3) else None)
            share = source.choice([Fraction(1, 2), Fraction(2, 3), Fraction(1, 3), Fraction(3, 5), Fraction(4, 5)])
            seen.append(quotient.is_free(1 / share))
            self.check(quotient.pair(*random_shared(source)), share, seen[-1])
        self.assertGreater(min(seen.count(True), seen.count(False)), 50)

    def test_the_told_rows(self):
        # Powers of 1 / 2 are led by fade to n times as much, and means lead them to no more than twice as much.
        powers = tuple((1, 2 ** at) for at in range(40))
        self.assertEqual(told(fade, powers), tuple(pair(Fraction(at + 1, 2 ** (at + 1))) for at in range(40)))
        self.assertEqual(told(means, powers)[1:], tuple(pair(Fraction(3, 2 ** (at + 1))) for at in range(1, 40)))

    def test_refusals(self):
        for fraction in (half, one, None):
            check_teller_refused(self, keeps_share, fraction)
        for value in WRONG_SHARES:
            for teller in (means, fade, sums):
                check_given(self, InvalidFraction, value, keeps_share, teller, value)
                check_given(self, InvalidFraction, value, keeps_share, fraction=value, teller=teller)


class Conventions(unittest.TestCase):
    def test_all_of_them_are_told_of_a_delay(self):
        source = random.Random(94)
        for _ in range(60):
            quotient = random_quotient(source)
            later = quotient.times(Quotient(1, {Z: 3})).pair()
            self.assertEqual(straying(quotient.pair()), straying(later))
            self.assertEqual(keeps_share(quotient.pair(), half), keeps_share(later, half))

    def test_what_was_returned_may_be_passed(self):
        teller = behind(behind(fade, fade), behind(((two,), ((3, 1), less)), means))
        self.assertIs(keeps_ends(teller), True)
        self.assertIs(keeps_share(teller, (2, 3)), True)
        self.assertIs(keeps_share(teller, half), False)


if __name__ == "__main__":
    unittest.main()
