"""Certificates: what [29] asks of the functions that certify, and the heading of certificates."""

import random
import unittest
from fractions import Fraction

from endtellers import certificates
from endtellers.certificates import (
    certify_alternating, certify_counts, certify_ends, certify_keeping, certify_means, certify_row, certify_serving,
    certify_size, certify_telling, certify_within,
)
from endtellers.checker import accepts
from endtellers.discs import disc_counts
from endtellers.errors import (
    InvalidFraction, InvalidKinds, InvalidNumber, InvalidNumbers, InvalidPolynomial, InvalidRow, InvalidTeller,
    InvalidWeights, NotTelling,
)
from endtellers.keeping import keeps_ends
from endtellers.means import cesaro_order
from endtellers.moments import alternating_within, best_alternating, best_weights, error_within, least_error
from endtellers.rows import end_of, numbers_of
from endtellers.serving import serves_all
from endtellers.shanks import ends_left, told_end
from endtellers.weights import calmest_size, telling_weights
from tests.claims import PAPERS
from tests.curves import tuple_of
from tests.making import (
    NOT_ABOVE_NOUGHT, WRONG_FRACTIONS, WRONG_FROM_NOUGHT, WRONG_POLYNOMIALS, WRONG_ROWS, WRONG_SHARES, WRONG_TELLERS,
    made_of, pair, polynomial, wrong_tuples, wrong_wholes,
)
from tests.quotients import AT_ONE, Quotient, random_quotient, random_shared
from tests.refusals import check_refused, given, indexed
from tests.test_moments import WRONG_SUMS, WRONG_WEIGHTS
from tests.test_shanks import random_numbers
from tests.test_weights import WRONG_KINDS, random_kinds

nil, half, one, two, less = (0, 1), (1, 2), (1, 1), (2, 1), (-1, 1)
GREAT = 10 ** 399
means, fade, lag = ((half, half), (one,)), ((half,), (one, (-1, 2))), ((nil, one), (one,))
sums, double = ((one,), (one, less)), ((two,), (one,))
turn, near = ((one,), (one, one)), ((two, (-3, 2)), (one, (-3, 2), half))
climb = ((one,), (one, (-2, 1), one))
slant, flat = ((one, half),), ((one, one),)

# What certifies what, and the word that stands against it, for the same parts.
AGAINST = {
    "keeps ends": "strays", "serves all": "lacks", "within": "beyond", "alternating within": "alternating beyond",
    "telling": "blind",
}
AGAINST.update({word: other for other, word in AGAINST.items()})


def random_row(source):
    """A row with poles at 1 or none, in some form."""
    quotient = random_quotient(source).times(Quotient(1, {AT_ONE: -source.randint(0, 1)}))
    return quotient.pair(*random_shared(source))


class Certified(unittest.TestCase):
    """Pairs of claims and papers, held against the checker."""

    def check(self, call, names, arguments, word, *told):
        """The claim has the word, the arguments as they were passed, and what is told; its paper is accepted."""
        found = call(*arguments)
        self.assertEqual(call(**dict(reversed(list(zip(names, arguments))))), found)
        self.assertEqual((type(found), len(found)), (tuple, 2))
        claim, paper = found
        self.assertEqual(claim, (word, *arguments, *told))
        for part, argument in zip(claim[1:], arguments):
            self.assertIs(part, argument)
        self.assertIs(accepts(claim, paper), True)
        if word in AGAINST:
            self.check_excluded((AGAINST[word], *arguments), paper)
        return paper

    def check_excluded(self, claim, paper):
        """No paper that the tests know is accepted for it."""
        for other in [paper, *PAPERS]:
            if accepts(claim, other):
                self.fail((claim, other))

    def test_counts(self):
        source = random.Random(801)
        for _ in range(40):
            value = random_quotient(source).pair(*random_shared(source))[source.randint(0, 1)]
            fraction = pair(Fraction(source.randint(1, 5), source.randint(1, 5)))
            counts = disc_counts(value, fraction)
            paper = self.check(certify_counts, ["polynomial", "fraction"], [value, fraction], "counts", counts)
            self.assertEqual(paper, ())
            for at in range(3):
                wrong = counts[:at] + (counts[at] + 1,) + counts[at + 1:]
                self.assertIs(accepts(("counts", value, fraction, wrong), ()), False)

    def test_keeping(self):
        source = random.Random(802)
        seen = []
        for _ in range(80):
            teller = random_quotient(source).pair(*random_shared(source))
            word = "keeps ends" if keeps_ends(teller) else "strays"
            paper = self.check(certify_keeping, ["teller"], [teller], word)
            seen.append(paper)
        self.assertGreater(min(seen.count(paper) for paper in ((), "pulse", "ones")), 8)

    def test_serving(self):
        source = random.Random(803)
        seen = []
        for _ in range(60):
            teller, other = random_quotient(source), random_quotient(source)
            if source.randint(0, 1):
                teller = teller.times(other)
            arguments = [teller.pair(*random_shared(source)), other.pair(*random_shared(source))]
            word = "serves all" if serves_all(*arguments) else "lacks"
            seen.append(word)
            paper = self.check(certify_serving, ["teller", "other"], arguments, word)
            self.assertEqual(paper == (), word == "serves all")
        self.assertGreater(min(seen.count(word) for word in ("serves all", "lacks")), 8)

    def test_rows(self):
        source = random.Random(804)
        seen = []
        for _ in range(80):
            row = random_row(source)
            end = end_of(row)
            seen.append(end is None)
            if end is None:
                self.assertEqual(self.check(certify_row, ["row"], [row], "endless"), ())
                self.check_excluded(("ends", row, nil), ())
            else:
                self.assertEqual(self.check(certify_row, ["row"], [row], "ends", end), ())
                self.check_excluded(("endless", row), ())
                self.check_excluded(("ends", row, (end[0] + end[1], end[1])), ())
        self.assertGreater(min(seen.count(True), seen.count(False)), 20)
        self.check(certify_row, ["row"], [((), (one, one))], "ends", nil)

    def test_means(self):
        source = random.Random(805)
        seen = []
        for _ in range(80):
            row = random_row(source)
            order = cesaro_order(row)
            seen.append(order is None)
            if order is None:
                self.assertEqual(self.check(certify_means, ["row"], [row], "no means"), ())
                self.check_excluded(("means", row, 0), ())
            else:
                self.assertEqual(self.check(certify_means, ["row"], [row], "means", order), ())
                self.check_excluded(("no means", row), ())
                self.check_excluded(("means", row, order + 1), ())
        self.assertGreater(min(seen.count(True), seen.count(False)), 15)
        nine = (polynomial(1), made_of(*[[1, 0, 1]] * 9))
        self.check(certify_means, ["row"], [nine], "means", 9)

    def test_within(self):
        source = random.Random(806)
        names = ["weights", "top", "fraction"]
        for _ in range(40):
            weights = [Fraction(source.randint(-5, 5), source.randint(1, 4)) for _ in range(source.randint(0, 8))]
            weights.append(1 - sum(weights))
            arguments = [tuple_of(weights), pair(Fraction(source.randint(1, 9), 10)), pair(source.randint(0, 6))]
            word = "within" if error_within(*arguments) else "beyond"
            self.check(certify_within, names, arguments, word)
        for number in range(1, 10):
            best, bound = best_weights(number, half), least_error(number, half)
            self.check(certify_within, names, [best, half, bound], "within")
            lower = pair(Fraction(*bound) * (1 - Fraction(1, GREAT)))
            self.check(certify_within, names, [best, half, lower], "beyond")

    def test_alternating(self):
        source = random.Random(807)
        names = ["weights", "fraction"]
        for _ in range(40):
            many = source.randint(1, 9)
            weights = tuple_of(Fraction(source.randint(-5, 5), source.randint(1, 4)) for _ in range(many))
            arguments = [weights, pair(Fraction(source.randint(0, 20), 4))]
            word = "alternating within" if alternating_within(*arguments) else "alternating beyond"
            self.check(certify_alternating, names, arguments, word)
        self.check(certify_alternating, names, [best_alternating(9), (1, 1000)], "alternating within")

    def test_telling_and_sizes(self):
        source = random.Random(808)
        names, seen = ["number", "kinds"], []
        for _ in range(80):
            number = source.randint(1, 10)
            arguments = [number, random_kinds(source, number, source.randint(0, 6))]
            tells = telling_weights(*arguments) is not None
            seen.append(tells)
            self.check(certify_telling, names, arguments, "telling" if tells else "blind")
            if not tells:
                with self.assertRaises(NotTelling):
                    certify_size(*arguments)
                with self.assertRaises(NotTelling):
                    certify_size(kinds=arguments[1], number=number)
                continue
            size = calmest_size(*arguments)
            weights, (end, multiples) = self.check(certify_size, names, arguments, "least size", size)
            self.assertEqual((end, len(weights), len(multiples)), (size, number, len(arguments[1])))
            for other in (pair(Fraction(*size) + 1), pair(Fraction(*size) - Fraction(1, GREAT))):
                for paper in ((weights, (end, multiples)), (weights, (other, multiples))):
                    self.check_excluded(("least size", *arguments, other), paper)
        self.assertGreater(min(seen.count(True), seen.count(False)), 15)

    def test_ends(self):
        source = random.Random(809)
        names, seen = ["numbers", "order"], []
        for _ in range(120):
            arguments = [tuple_of(random_numbers(source, source.randint(1, 13))), source.randint(0, 5)]
            word = {"none": "no end", "one": "one end", "many": "many ends"}[ends_left(*arguments)]
            seen.append(word)
            told = [told_end(*arguments)] if word == "one end" else []
            paper = self.check(certify_ends, names, arguments, word, *told)
            self.assertEqual(len(paper), 2 if word == "many ends" else 0)
            for other in {"one end", "no end", "many ends"} - {word}:
                more = [told_end(*arguments) or nil] if other == "one end" else []
                self.check_excluded((other, *arguments, *more), paper)
        self.assertGreater(min(seen.count(word) for word in ("one end", "no end", "many ends")), 15)

    def test_great_numbers(self):
        wide = ((GREAT, 1), (GREAT - 1, 1))
        self.check(certify_size, ["number", "kinds"], [2, (wide,)], "least size", (2 * GREAT - 1, 1))
        self.check(certify_ends, ["numbers", "order"], [((GREAT, 1), (1, GREAT), nil, nil), 2], "many ends")
        self.check(certify_within, ["weights", "top", "fraction"], [(one,), half, ((GREAT - 1), GREAT)], "beyond")


class Refusals(unittest.TestCase):
    def test_each(self):
        rows, tellers = given(InvalidRow, WRONG_ROWS), given(InvalidTeller, WRONG_TELLERS)
        from_nought = given(InvalidFraction, WRONG_FROM_NOUGHT)
        numbers = [given(InvalidNumber, wrong_wholes(1, 10)), indexed(InvalidKinds, WRONG_KINDS)]
        listed = [
            (certify_counts, ["polynomial", "fraction"], [(one, two), half],
             [given(InvalidPolynomial, WRONG_POLYNOMIALS), given(InvalidFraction, WRONG_FRACTIONS + NOT_ABOVE_NOUGHT)]),
            (certify_keeping, ["teller"], [fade], [tellers]),
            (certify_serving, ["teller", "other"], [fade, means], [tellers, tellers]),
            (certify_row, ["row"], [near], [rows]),
            (certify_means, ["row"], [turn], [rows]),
            (certify_within, ["weights", "top", "fraction"], [(less, two), half, nil],
             [indexed(InvalidWeights, WRONG_WEIGHTS + WRONG_SUMS), given(InvalidFraction, WRONG_SHARES), from_nought]),
            (certify_alternating, ["weights", "fraction"], [(one, two), half],
             [indexed(InvalidWeights, WRONG_WEIGHTS), from_nought]),
            (certify_telling, ["number", "kinds"], [2, slant], numbers),
            (certify_size, ["number", "kinds"], [2, slant], numbers),
            (certify_ends, ["numbers", "order"], [(one, two), 1],
             [indexed(InvalidNumbers, wrong_tuples(13)), given(InvalidNumber, wrong_wholes(0, 5))]),
        ]
        for call, names, rights, wrongs in listed:
            with self.subTest(call=call.__name__):
                check_refused(self, call, names, rights, wrongs)
        told = {name for name in vars(certificates) if name.startswith("certify_")}
        self.assertEqual(told, {call.__name__ for call, _, _, _ in listed})

    def test_telling_comes_last(self):
        with self.assertRaises(InvalidKinds):
            certify_size(2, flat + (None,))
        with self.assertRaises(NotTelling) as caught:
            certify_size(2, flat)
        self.assertEqual(vars(caught.exception), {})


class TheWholeProgram(unittest.TestCase):
    """What the modules tell of the same row, teller or weights agrees."""

    def test_rows_have_one_end(self):
        source = random.Random(810)
        for _ in range(60):
            row = random_row(source)
            claim, _ = certify_row(row)
            meant, _ = certify_means(row)
            self.assertEqual(claim[0] == "ends", meant[0] == "means" and meant[2] == 0)

    def test_numbers_of_rows_leave_their_end(self):
        source = random.Random(811)
        for _ in range(40):
            row = random_quotient(source, most=1).times(Quotient(1, {AT_ONE: -1})).pair()
            claim, _ = certify_ends(numbers_of(row, 13), 5)
            if claim[0] == "one end" and certify_row(row)[0][0] == "ends":
                self.assertEqual(claim[3], end_of(row))

    def test_equal_calls_return_equal_results(self):
        for _ in range(2):
            self.assertEqual(certify_serving(lag, means), certify_serving(lag, means))
            self.assertEqual(certify_keeping(double), (("strays", double), "ones"))
            self.assertEqual(certify_keeping(sums), (("strays", sums), "pulse"))
            self.assertEqual(certify_row(climb), (("endless", climb), ()))


if __name__ == "__main__":
    unittest.main()
