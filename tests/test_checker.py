"""The checker: point [29] and the heading of checker."""

import random
import unittest
from fractions import Fraction

from endtellers.certificates import certify_ends, certify_size, certify_telling
from endtellers.checker import accepts
from endtellers.discs import disc_counts
from endtellers.moments import best_weights, least_error
from endtellers.rows import is_row
from endtellers.shanks import ends_left, row_end, twin_ends
from tests.claims import NO_CLAIMS, PAPERS, SO
from tests.making import NOTHING, Odd, made_of, pair, polynomial
from tests.quotients import random_quotient, series

nil, half, one, two, less = (0, 1), (1, 2), (1, 1), (2, 1), (-1, 1)
GREAT = 10 ** 399

OPPOSITES = [
    ("keeps ends", "strays"), ("serves all", "lacks"), ("within", "beyond"), ("telling", "blind"),
    ("alternating within", "alternating beyond"), ("no end", "many ends"),
]


def is_same(value, other):
    """Whether two papers are the same, kinds of values counted."""
    return repr(value) == repr(other)


class Accepts(unittest.TestCase):
    def check(self, claim, paper, expected):
        self.assertIs(accepts(claim, paper), expected)
        self.assertIs(accepts(paper=paper, claim=claim), expected)

    def test_right_papers(self):
        for claim, rights, _, _ in SO:
            for paper in rights:
                with self.subTest(claim=claim, paper=paper):
                    self.check(claim, paper, True)

    def test_wrong_papers(self):
        for claim, _, wrongs, _ in SO:
            for paper in wrongs:
                with self.subTest(claim=claim, paper=paper):
                    self.check(claim, paper, False)

    def test_values_that_are_no_papers(self):
        for claim, rights, _, _ in SO:
            for paper in NOTHING + [0, 1, True, False, "", "pulses", ((),), [()], (one,) * 40, (Odd(), Odd(), Odd())]:
                if not any(is_same(paper, right) for right in rights):
                    with self.subTest(claim=claim):
                        self.check(claim, paper, False)

    def test_nothing_where_a_paper_is_told(self):
        for claim, rights, _, _ in SO:
            self.check(claim, (), () in rights)

    def test_papers_of_another_kind(self):
        # Where no paper is told () alone is accepted; papers of claims of other words are no papers for these.
        for claim, rights, _, _ in SO:
            for other, papers, _, _ in SO:
                if other[0] != claim[0]:
                    for paper in papers:
                        if paper != () and () in rights:
                            self.check(claim, paper, False)

    def test_excluded_claims_have_no_paper(self):
        for _, _, _, excluded in SO:
            for claim in excluded:
                for paper in PAPERS:
                    if accepts(claim, paper):
                        self.fail((claim, paper))

    def test_no_claims(self):
        for claim in NO_CLAIMS:
            for paper in PAPERS:
                if accepts(claim, paper) is not False:
                    self.fail((claim, paper))

    def test_a_part_too_many_and_too_few(self):
        for claim, rights, _, _ in SO:
            for paper in rights:
                self.check(claim + ((),), paper, False)
                self.check(claim + (claim[-1],), paper, False)
                self.check(claim + (None,), paper, False)
                self.check(claim[:-1], paper, False)
                self.check(claim[:1], paper, False)
                self.check(claim[1:], paper, False)
                self.check(claim[:1] + claim, paper, False)

    def test_lists_for_tuples(self):
        for claim, rights, _, _ in SO:
            for paper in rights:
                self.check(list(claim), paper, False)
                self.check((list(claim[:1]),) + claim[1:], paper, False)
                if isinstance(paper, tuple):
                    self.check(claim, list(paper), False)
                for at, part in enumerate(claim):
                    if isinstance(part, tuple):
                        self.check(claim[:at] + (list(part),) + claim[at + 1:], paper, False)
                        for inner, value in enumerate(part):
                            if isinstance(value, tuple):
                                changed = part[:inner] + (list(value),) + part[inner + 1:]
                                self.check(claim[:at] + (changed,) + claim[at + 1:], paper, False)

    def test_parts_of_any_kind(self):
        for claim, rights, _, _ in SO:
            for at in range(len(claim)):
                for value in NOTHING + [True, False, -1, 10 ** 399, "pulse"]:
                    self.check(claim[:at] + (value,) + claim[at + 1:], rights[0], False)

    def test_other_words(self):
        for claim, rights, _, _ in SO:
            for paper in rights:
                for word in [claim[0] + " ", claim[0].upper(), claim[0][:-1], "", claim[0].replace(" ", "_") + "_",
                             "claim"]:
                    self.check((word,) + claim[1:], paper, False)
                self.check((claim[0].encode(),) + claim[1:], paper, False)

    def test_the_opposite_word(self):
        for claim, _, _, _ in SO:
            for words in OPPOSITES:
                if claim[0] in words:
                    other = words[1 - words.index(claim[0])]
                    for paper in PAPERS:
                        self.assertIs(accepts((other,) + claim[1:], paper), False)

    def test_all_words_have_claims(self):
        self.assertEqual({claim[0] for claim, _, _, _ in SO}, {
            "counts", "keeps ends", "strays", "serves all", "lacks", "ends", "endless", "means", "no means", "within",
            "beyond", "alternating within", "alternating beyond", "telling", "blind", "least size", "one end", "no end",
            "many ends",
        })


class PapersOfOthers(unittest.TestCase):
    def test_places_at_the_bound_are_not_beyond(self):
        for number in range(2, 10):
            weights, bound = best_weights(number, half), least_error(number, half)
            for place in (nil, half):
                self.assertIs(accepts(("beyond", weights, half, bound), place), False)
                lower = pair(Fraction(*bound) * (1 - Fraction(1, GREAT)))
                self.assertIs(accepts(("beyond", weights, half, lower), place), True)

    def test_rows_with_common_parts(self):
        claim = ("lacks", ((nil, one), (one,)), ((half, half), (one,)))
        for shared in ([1, -1], [1, 5], [3, 0, 1], [2, 1]):
            row = (made_of([4], shared), made_of([1, 1], shared))
            self.assertIs(accepts(claim, (row, nil)), True)
            twins = (row, (made_of([8], shared), made_of([2, 1], shared)))
            numbers = tuple(pair(number) for number in series([4], [1, 1], 1))
            self.assertIs(accepts(("many ends", numbers, 1), twins), False)
        first = ((two,), (one, (-3, 4)))
        second = (made_of([2, Fraction(-3, 2)], [7, 1]), made_of([1, Fraction(-3, 2), Fraction(1, 2)], [7, 1]))
        self.assertIs(accepts(("many ends", (two, (3, 2)), 1), (first, second)), True)

    def test_any_weights_that_tell(self):
        source = random.Random(701)
        for _ in range(40):
            weights = [Fraction(source.randint(-5, 5), source.randint(1, 3)) for _ in range(3)]
            weights.append(1 - sum(weights))
            kind = [Fraction(source.randint(-5, 5)) for _ in range(4)]
            told = sum(weight * number for weight, number in zip(weights, kind))
            kind = tuple(pair(number - told) for number in kind)
            paper = tuple(pair(weight) for weight in weights)
            self.assertIs(accepts(("telling", 4, (kind,)), paper), True)
            self.assertIs(accepts(("blind", 4, (kind,)), paper), False)
            self.assertIs(accepts(("telling", 4, (kind,)), paper[:3]), False)

    def test_any_rows_of_an_order(self):
        source = random.Random(702)
        found = 0
        for _ in range(200):
            rows = []
            for _ in range(2):
                ratio, size = Fraction(source.randint(-5, 5), source.randint(1, 3)), source.randint(1, 3)
                end = 4 - size
                rows.append((polynomial(4, -end * ratio - size), made_of([1, -1], [1, -ratio])))
            if all(is_row(row) for row in rows):
                expected = row_end(rows[0]) != row_end(rows[1])
                found += expected
                self.assertIs(accepts(("many ends", ((4, 1),), 1), tuple(rows)), expected)
        self.assertGreater(found, 20)

    def test_great_papers(self):
        kinds = (tuple((GREAT - at * at, GREAT + at) for at in range(1, 6)),
                 tuple((1, GREAT + at * at) for at in range(5)))
        kinds = tuple(tuple(pair(Fraction(*number)) for number in kind) for kind in kinds)
        self.assertIs(accepts(*certify_size(5, kinds)), True)
        self.assertIs(accepts(*certify_telling(5, kinds)), True)
        self.assertIs(accepts(*certify_ends(kinds[0][:4], 2)), True)


class WhatIsAcceptedIsSo(unittest.TestCase):
    def test_counts(self):
        source = random.Random(703)
        for _ in range(60):
            value = random_quotient(source).pair()[source.randint(0, 1)]
            fraction = pair(Fraction(source.randint(1, 4), source.randint(1, 4)))
            counts = tuple(source.randint(0, 2) for _ in range(3))
            self.assertIs(accepts(("counts", value, fraction, counts), ()), counts == disc_counts(value, fraction))
            self.assertIs(accepts(("counts", value, fraction, disc_counts(value, fraction)), ()), True)

    def test_just_one_word_for_ends(self):
        source = random.Random(704)
        for _ in range(80):
            numbers = tuple((source.randint(-1, 1), 1) for _ in range(source.randint(1, 7)))
            order = source.randint(0, 3)
            word = ends_left(numbers, order)
            ends = [(at, 1) for at in range(-3, 4)] + [half, (1, 3), (-1, 2)]
            one_end = [end for end in ends if accepts(("one end", numbers, order, end), ())]
            self.assertLessEqual(len(one_end), 1)
            if one_end:
                self.assertEqual(word, "one")
            self.assertIs(accepts(("no end", numbers, order), ()), word == "none")
            paper = twin_ends(numbers, order)
            self.assertIs(accepts(("many ends", numbers, order), paper), word == "many")


if __name__ == "__main__":
    unittest.main()
