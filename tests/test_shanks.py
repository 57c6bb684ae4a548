"""Rows of an order: points [26] to [28] and the heading of shanks."""

import random
import unittest
from fractions import Fraction

from endtellers.errors import InvalidNumber, InvalidNumbers, InvalidRow
from endtellers.means import abel_end
from endtellers.rows import is_row, numbers_of as first_numbers, row_sum, row_times, sums_of
from endtellers.shanks import cell, ends_left, row_end, row_order, shanks_table, told_end, twin_ends
from tests.making import NOTHING, WRONG_ROWS, made_of, numbers_of, pair, polynomial, wrong_tuples, wrong_wholes
from tests.quotients import AT_ONE, Quotient, random_quotient, random_shared
from tests.refusals import check_refused, given, indexed
from tests.solving import determinant, solved

nil, half, one, two, three, less = (0, 1), (1, 2), (1, 1), (2, 1), (3, 1), (-1, 1)
GREAT = 10 ** 399
fall = ((2, 1), (3, 2), (5, 4))
turn, steady, climb = ((one,), (one, one)), ((one,), (one, less)), ((one,), (one, (-2, 1), one))
near = ((two, (-3, 2)), (one, (-3, 2), half))


def tuple_of(numbers):
    """The tuple of pairs of numbers."""
    return tuple(pair(number) for number in numbers)


def ends_by_words(numbers, order):
    """The ends as point [26] tells them: for each l from 0 to the order, by equations for a_0, .., a_l and the end.

    A set of ends; many for endlessly many.
    """
    ends = set()
    for lower in range(order + 1):
        rows, rights = [[1] * (lower + 1) + [0]], [1]
        for at in range(len(numbers) - lower):
            rows.append([*numbers[at:at + lower + 1], -1])
            rights.append(0)
        found = solved(rows, rights)
        if found is None:
            continue
        first, spans = found
        if first[lower] == 0 and all(span[lower] == 0 for span in spans):
            continue
        if any(span[-1] != 0 for span in spans):
            return "many"
        ends.add(first[-1])
    return ends


def cell_by_words(numbers, order, index):
    """The s of the one choice of a_0, .., a_k and s; None if there is none, or more than one."""
    rows = [[1] * (order + 1) + [0]]
    for at in range(order + 1):
        rows.append([*numbers[index + at:index + at + order + 1], -1])
    found = solved(rows, [1] + [0] * (order + 1))
    if found is None or found[1]:
        return None
    return found[0][-1]


def random_numbers(source, many):
    """So many numbers, some of them those of rows of low orders, moved or not."""
    word = source.randint(0, 5)
    if word == 0:
        return [Fraction(source.randint(-2, 2)) for _ in range(many)]
    if word == 1:
        return [Fraction(source.randint(-9, 9), source.randint(1, 4)) for _ in range(many)]
    order = source.randint(0, 4)
    numbers = [Fraction(source.randint(-4, 4)) for _ in range(order)]
    factors = [Fraction(source.randint(-3, 3)) for _ in range(order)]
    while len(numbers) < many:
        numbers.append(sum(factor * number for factor, number in zip(factors, numbers[len(numbers) - order:])))
    end = Fraction(source.randint(-3, 3), source.randint(1, 2))
    numbers = [number + end for number in numbers[:many]]
    if word == 2:
        numbers[source.randrange(many)] += 1
    return numbers


class Cells(unittest.TestCase):
    def check(self, numbers, order, index, expected):
        self.assertEqual(cell(numbers, order, index), expected)
        self.assertEqual(cell(index=index, order=order, numbers=numbers), expected)

    def test_by_hand(self):
        self.check(fall, 1, 0, one)
        self.check((one, two, three), 1, 0, None)
        self.check((one, one, two), 1, 0, one)
        self.check((one, two, two), 1, 0, two)
        self.check((one, one, one), 1, 0, None)
        self.check((one, less, one), 1, 0, nil)
        self.check((one, two, (4, 1)), 1, 0, nil)
        for index in range(3):
            self.check(fall, 0, index, fall[index])
        self.check((one,), 0, 0, one)

    def test_each_order_and_index(self):
        source = random.Random(601)
        seen = []
        for _ in range(80):
            many = source.randint(1, 13)
            numbers = random_numbers(source, many)
            table = shanks_table(tuple_of(numbers))
            self.assertEqual(shanks_table(numbers=tuple_of(numbers)), table)
            self.assertEqual(len(table), (many + 1) // 2)
            for order, cells in enumerate(table):
                self.assertEqual((type(cells), len(cells)), (tuple, many - 2 * order))
                for index, found in enumerate(cells):
                    expected = cell_by_words(numbers, order, index)
                    seen.append(expected is None)
                    self.assertEqual(found, None if expected is None else pair(expected))
                    self.check(tuple_of(numbers), order, index, found)
                    first = [high - low for low, high in zip(numbers[index:], numbers[index + 1:])]
                    second = [high - low for low, high in zip(first, first[1:])]
                    there = determinant([second[row:row + order] for row in range(order)]) != 0
                    self.assertEqual(there, found is not None)
        self.assertGreater(min(seen.count(True), seen.count(False)), 300)

    def test_ends_of_rows_of_the_order(self):
        source = random.Random(602)
        found = 0
        for _ in range(100):
            row = random_quotient(source, most=1).times(Quotient(1, {AT_ONE: -source.randint(0, 1)})).pair()
            order = row_order(row)
            if order is None or order > 6:
                continue
            numbers = first_numbers(row, 13)
            for index in range(13 - 2 * order):
                told = cell(numbers, order, index)
                if told is not None:
                    found += 1
                    self.assertEqual(told, row_end(row))
            # With 2 k + 1 numbers of a row of the least order k the cell is there.
            self.assertIsNotNone(cell(numbers, order, 0))
        self.assertGreater(found, 100)

    def test_wynn(self):
        source = random.Random(603)
        found = 0
        for _ in range(60):
            numbers = tuple_of(Fraction(source.randint(-9, 9), source.randint(1, 4)) for _ in range(9))
            table = shanks_table(numbers)
            for order in range(4):
                for index in range(1, len(table[order]) - 1):
                    around = [table[order][index - 1], table[order][index + 1], table[order + 1][index - 1]]
                    if order > 0:
                        around.append(table[order - 1][index + 1])
                    middle = table[order][index]
                    if middle is None or None in around or middle in around:
                        continue
                    above, below, east, *west = [1 / (Fraction(*other) - Fraction(*middle)) for other in around]
                    self.assertEqual(above + below, east + sum(west))
                    found += 1
        self.assertGreater(found, 500)

    def test_great_numbers(self):
        numbers = tuple_of(3 + Fraction(1, GREAT) ** (at % 2) * Fraction(GREAT + 1, 7 * GREAT) ** at for at in range(7))
        self.check(numbers, 2, 0, three)
        self.check(numbers, 2, 2, three)
        self.check(numbers, 3, 0, None)
        self.check(((GREAT, 1), (GREAT - 1, 1), (GREAT - 3, 1)), 1, 0, (GREAT + 1, 1))

    def test_refusals(self):
        names = ["numbers", "order", "index"]
        wrong = indexed(InvalidNumbers, wrong_tuples(13))
        five = (one, two, (4, 1), three, nil)
        for numbers, order, index in [((one,), 0, 0), (five, 0, 4), (five, 1, 2), (five, 2, 0), ((one,) * 13, 6, 0),
                                      (five[:4], 1, 1)]:
            orders = wrong_wholes(0, (len(numbers) - 1) // 2)
            indexes = wrong_wholes(0, len(numbers) - 2 * order - 1)
            wrongs = [wrong, given(InvalidNumber, orders), given(InvalidNumber, indexes)]
            check_refused(self, cell, names, [numbers, order, index], wrongs)
        check_refused(self, shanks_table, ["numbers"], [(one,) * 13], [wrong])


class EndsLeft(unittest.TestCase):
    def check(self, numbers, order, word, end=None):
        numbers = tuple_of(numbers)
        for _ in range(2):
            self.assertEqual(ends_left(numbers, order), word)
            self.assertEqual(ends_left(order=order, numbers=numbers), word)
            self.assertEqual(told_end(numbers, order), end)
            self.assertEqual(told_end(order=order, numbers=numbers), end)
        twins = twin_ends(numbers, order)
        self.assertEqual(twin_ends(order=order, numbers=numbers), twins)
        self.assertEqual(twins is not None, word == "many")
        if twins is not None:
            self.assertEqual((type(twins), len(twins)), (tuple, 2))
            for row in twins:
                self.assertIs(is_row(row), True)
                self.assertEqual(first_numbers(row, len(numbers)), numbers)
                self.assertLessEqual(row_order(row), order)
            self.assertNotEqual(row_end(twins[0]), row_end(twins[1]))

    def test_by_hand(self):
        self.check([2, Fraction(3, 2), Fraction(5, 4)], 1, "one", one)
        self.check([2, Fraction(3, 2)], 1, "many")
        self.check([1, 1], 1, "one", one)
        self.check([1, 2, 4], 1, "one", nil)
        self.check([1, 2, 3], 1, "none")
        self.check([1, 1, 2], 1, "none")
        self.check([1, 2], 2, "many")
        self.check([1, 2, 2], 1, "one", two)
        self.check([1, 2, 2, 2, 2], 1, "one", two)
        self.check([1, 2, 2, 2, 3], 1, "none")
        self.check([0, 0, 1], 1, "none")
        self.check([1, 1, 2], 2, "many")

    def test_order_nought(self):
        self.check([5], 0, "one", (5, 1))
        self.check([5, 5, 5], 0, "one", (5, 1))
        self.check([5, 5, 4], 0, "none")
        self.check([4, 5], 0, "none")
        self.check([0] * 13, 0, "one", nil)

    def test_fewer_numbers_than_the_order(self):
        for order in range(1, 6):
            for many in range(1, order + 1):
                self.check([3] * many, order, "many")
                self.check(list(range(1, many + 1)), order, "many")

    def test_equal_numbers(self):
        for order in range(6):
            for many in range(1, 14):
                word = "one" if many > order else "many"
                self.check([7] * many, order, word, (7, 1) if word == "one" else None)

    def test_numbers_of_rows_of_an_order(self):
        source = random.Random(604)
        for _ in range(60):
            order = source.randint(1, 5)
            row = Quotient(1, {}).pair()
            while row_order(row) != order:
                row = random_quotient(source, most=1).times(Quotient(1, {AT_ONE: -source.randint(0, 1)})).pair()
                if row_order(row) is None:
                    row = Quotient(1, {}).pair()
                    if order == 1:
                        row = ((two,), (one, two))
            for many in range(1, 14):
                numbers = numbers_of(first_numbers(row, many))
                if many <= 2 * order:
                    steps = [high - low for low, high in zip(numbers, numbers[1:])]
                    if many == 2 * order and determinant([steps[at:at + order] for at in range(order)]) != 0:
                        self.assertEqual(ends_left(tuple_of(numbers), order), "many")
                else:
                    self.check(numbers, order, "one", row_end(row))
                    self.assertEqual(cell(tuple_of(numbers), order, 0), row_end(row))
                    moved = list(numbers)
                    moved[-1] += Fraction(1, 10)
                    if many > 2 * order + 1:
                        self.assertEqual(ends_left(tuple_of(moved), order), "none")

    def test_twice_as_many_numbers(self):
        # Where the table of differences has a determinant other than 0 endlessly many ends are left.
        source = random.Random(605)
        found = 0
        for _ in range(150):
            order = source.randint(1, 5)
            numbers = random_numbers(source, 2 * order)
            steps = [high - low for low, high in zip(numbers, numbers[1:])]
            if determinant([steps[at:at + order] for at in range(order)]) != 0:
                found += 1
                self.check(numbers, order, "many")
        self.assertGreater(found, 60)

    def test_one_more(self):
        # The cell, if it is there and its a_k is not 0, is the one end.
        source = random.Random(606)
        seen = []
        for _ in range(150):
            order = source.randint(1, 5)
            numbers = random_numbers(source, 2 * order + 1)
            rows = [[1] * (order + 1) + [0]]
            rows += [[*numbers[at:at + order + 1], -1] for at in range(order + 1)]
            found = solved(rows, [1] + [0] * (order + 1))
            if found is not None and not found[1]:
                seen.append(found[0][order] != 0)
                if seen[-1]:
                    self.check(numbers, order, "one", pair(found[0][-1]))
                    self.assertEqual(cell(tuple_of(numbers), order, 0), pair(found[0][-1]))
                else:
                    self.check(numbers, order, "none")
        self.assertGreater(min(seen.count(True), seen.count(False)), 5)

    def test_as_the_words_tell(self):
        source = random.Random(607)
        seen = []
        for _ in range(400):
            numbers = random_numbers(source, source.randint(1, 13))
            order = source.randint(0, 5)
            ends = ends_by_words(numbers, order)
            if ends == "many":
                self.check(numbers, order, "many")
            else:
                self.assertLessEqual(len(ends), 1)
                self.check(numbers, order, "one" if ends else "none", pair(ends.pop()) if ends else None)
            seen.append(ends_left(tuple_of(numbers), order))
        self.assertGreater(min(seen.count(word) for word in ("none", "one", "many")), 60)

    def test_lesser_orders_are_among_them(self):
        source = random.Random(608)
        places = {"none": 0, "one": 1, "many": 2}
        for _ in range(100):
            numbers = tuple_of(random_numbers(source, source.randint(1, 13)))
            left = [places[ends_left(numbers, order)] for order in range(6)]
            self.assertEqual(left, sorted(left))
            told = {told_end(numbers, order) for order in range(6)} - {None}
            self.assertLessEqual(len(told), 1)

    def test_great_numbers(self):
        numbers = [GREAT + Fraction(1, 2) ** at for at in range(5)]
        self.check(numbers, 1, "one", (GREAT, 1))
        self.check(numbers, 2, "one", (GREAT, 1))
        self.check([Fraction(GREAT, GREAT - 1), Fraction(1, GREAT), Fraction(-GREAT, 7)], 2, "many")
        self.check([Fraction(1, GREAT + at) for at in range(10)], 5, "many")

    def test_refusals(self):
        wrongs = [indexed(InvalidNumbers, wrong_tuples(13)), given(InvalidNumber, wrong_wholes(0, 5))]
        for call in (ends_left, told_end, twin_ends):
            for numbers, order in [((one,), 0), ((one,) * 13, 5), (fall, 1)]:
                check_refused(self, call, ["numbers", "order"], [numbers, order], wrongs)


class Orders(unittest.TestCase):
    def check(self, row, order, end):
        self.assertEqual(row_order(row), order)
        self.assertEqual(row_order(row=row), order)
        self.assertEqual(row_end(row), end)
        self.assertEqual(row_end(row=row), end)

    def test_by_hand(self):
        self.check(turn, 1, nil)
        self.check(steady, 0, one)
        self.check(climb, None, None)
        self.check(((one,), (one,)), 1, nil)
        self.check(near, 1, one)
        self.check(((), (one, one)), 0, nil)
        self.check(((), (one,)), 0, nil)
        self.check(((two,), (two, (-2, 1))), 0, one)
        self.check(((one, two), (one,)), 2, nil)
        self.check(((nil, nil, one), (one,)), 3, nil)
        self.check(((nil, one), (one, less)), 1, one)
        self.check(sums_of(turn), 1, half)
        self.check(sums_of(steady), None, None)
        self.check(((one,), (one, (-2, 1))), 1, nil)
        self.check(((one,), made_of([1, -1], [1, -2])), 1, less)
        self.check((polynomial(1, 1, 1), made_of([1, 2], [1, 3])), 3, nil)

    def test_common_parts_are_no_matter(self):
        self.check(((one, less), (one, (-2, 1), one)), 0, one)
        self.check((made_of([1, 2]), made_of([1, 2], [1, 1])), 1, nil)
        self.check((made_of([1, -1]), made_of([1, -1], [1, -1], [1, 1])), 1, half)

    def test_known_factors(self):
        source = random.Random(609)
        seen = []
        for _ in range(200):
            quotient = random_quotient(source)
            quotient = quotient.times(Quotient(1, {AT_ONE: -source.randint(0, 1)}))
            row = quotient.pair(*random_shared(source))
            if quotient.count(AT_ONE) < -1:
                seen.append(None)
                self.check(row, None, None)
                continue
            rest = quotient.times(Quotient(-1, {AT_ONE: 1}))
            end = rest.worth(1) if quotient.count(AT_ONE) == -1 else Fraction(0)
            tops, unders = quotient.plus(Quotient(end, {AT_ONE: -1})) if end else quotient.lists()
            # The end / (1 - z) taken off; of a pole at 1 one time (1 - z) goes out above and below.
            poles = 2 if end else 0
            while tops and tops[-1] == 0:
                tops.pop()
            degrees = len(unders) - 1 - poles, len(tops) - 1 - poles
            order = max(degrees[0], degrees[1] + 1) if tops else 0
            seen.append(order)
            self.check(row, order, pair(end))
        self.assertGreater(len(set(seen)), 5)

    def test_the_numbers_of_a_row_of_the_order(self):
        source = random.Random(610)
        for _ in range(60):
            row = random_quotient(source, most=1).times(Quotient(1, {AT_ONE: -source.randint(0, 1)})).pair()
            order = row_order(row)
            if order is None or order > 5:
                continue
            numbers = first_numbers(row, 13)
            self.assertEqual(ends_left(numbers, order), "one")
            self.assertEqual(told_end(numbers, order), row_end(row))
            if order > 0:
                self.assertEqual(ends_left(numbers, order - 1), "none")

    def test_ends_agree(self):
        source = random.Random(611)
        for _ in range(80):
            row = random_quotient(source).times(Quotient(1, {AT_ONE: -source.randint(0, 2)})).pair()
            if abel_end(row) is not None:
                self.assertEqual(row_end(row), abel_end(row))
            if row_end(row) is not None:
                moved = row_sum(row, row_times(steady, (5, 3)))
                self.assertEqual(row_order(moved), row_order(row))
                self.assertEqual(Fraction(*row_end(moved)), Fraction(*row_end(row)) + Fraction(5, 3))

    def test_refusals(self):
        for call in (row_order, row_end):
            check_refused(self, call, ["row"], [near], [given(InvalidRow, WRONG_ROWS)])


class Conventions(unittest.TestCase):
    def test_great_results_may_be_passed(self):
        first, second = twin_ends(tuple((1, GREAT - at) for at in range(1, 11)), 5)
        self.assertNotEqual(row_end(first), row_end(second))
        self.assertLessEqual(row_order(first), 5)
        self.assertEqual(row_sum(first, row_times(first, less)), ((), (one,)))

    def test_nothing_else_is_taken(self):
        for value in NOTHING:
            with self.assertRaises(InvalidNumbers):
                shanks_table(value)


if __name__ == "__main__":
    unittest.main()
