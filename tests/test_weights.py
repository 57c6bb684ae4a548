"""Weights: points [21] to [25] and the heading of weights."""

import random
import unittest
from fractions import Fraction
from itertools import combinations

from endtellers.errors import InvalidKinds, InvalidNumber, InvalidSteps, InvalidWeights, NotTelling
from endtellers.weights import (
    blind_row, calm_weights, calmest_size, do_tell, fewest_numbers, hiding_row, lifting_row, mean_weights, richardson,
    size_of_weights, step_kinds, telling_weights,
)
from tests.making import NOTHING, WRONG_FRACTIONS, Odd, nested, numbers_of, pair, wrong_tuples, wrong_wholes
from tests.refusals import check_refused, given, indexed
from tests.solving import rank, solved

one, half, less, quarter, nil, two = (1, 1), (1, 2), (-1, 1), (1, 4), (0, 1), (2, 1)
fading, slant, flat = ((one, half, quarter),), ((one, half),), ((one, one),)
GREAT = 10 ** 399

# Kinds for two numbers, with the index of the first wrong one.
WRONG_KINDS = [(value, None) for value in NOTHING if not isinstance(value, tuple)] + [
    (0, None), (True, None), ([(one, half)], None), ({(one, half): 1}, None), ("ab", None), (None, None),
    ((one, half), 0), (((one, half), (one,)), 1), (((one,),), 0), (((one, half, one),), 0), (((one, half), ()), 1),
    (((one, half), [one, half]), 1), (((one, half), (one, (2, 4))), 1), (((one, half), (one, (True, 1))), 1),
    (((one, half), (one, 1)), 1), ((None,), 0), (((one, half), None), 1), (((one, half), (one, None), None), 1),
    (((one, half), (Odd(), one)), 1), ((Odd(),), 0), (nested(14), 0), ((nested(13), (one, half)), 0),
    (((one, half),) * 7, 6), (((one, half),) * 6 + (None,), 6), (((one, half),) * 60, 6),
    (((one, half),) * 5 + ((one, 0),) * 2, 5), (((one, half), ((1, 0), one)), 1), ((((1, -1), one),), 0),
]


def first_again(value, index):
    """The index of the first one ahead of the index that is 0 or stands there before; otherwise the index."""
    for at in range(index or 0):
        if value[at] == nil or value[at] in value[:at]:
            return at
    return index


WRONG_STEPS = [(value, first_again(value, index)) for value, index in wrong_tuples(10)] + [
    ((one, half, one), 2), ((one, nil), 1), ((nil,), 0), ((one, one), 1), ((half, one, half, half), 2),
    ((one, half, nil, one), 2), ((one, (2, 4)), 1), (tuple((at, 1) for at in range(1, 12)), 10),
    (tuple((at, 1) for at in range(1, 11)) + (None,), 10), (tuple((at, 1) for at in range(1, 61)), 10),
    (tuple((at, 1) for at in range(1, 10)) + (one, None), 9), ((one, half, Odd()), 2), ((one, None, one), 1),
]


def random_kinds(source, number, many, great=False):
    """So many kinds, some of them noughts, the ones, and sums of others."""
    kinds = []
    for _ in range(many):
        kind = [Fraction(source.randint(-4, 4), source.randint(1, 4)) for _ in range(number)]
        word = source.randint(0, 9)
        if word == 0:
            kind = [Fraction(0)] * number
        if word == 1 and kinds:
            kind = [3 * first for first in kinds[0]]
        if word == 2 and len(kinds) > 1:
            kind = [first - 2 * second for first, second in zip(kinds[0], kinds[1])]
        if word == 3:
            kind = [Fraction(1, 2 ** at) for at in range(number)]
        if word == 4 and kinds:
            kind = [1 - first for first in kinds[0]]
        if great:
            kind = [number * (GREAT + source.randint(0, 9)) / (GREAT - source.randint(1, 9)) for number in kind]
        kinds.append(kind)
    return tuple(tuple(pair(number) for number in kind) for kind in kinds)


def row_of_family(kinds, end, multiples):
    """The numbers of the row of the family."""
    return [end + sum(multiple * Fraction(*kind[at]) for multiple, kind in zip(multiples, kinds))
            for at in range(len(kinds[0]))]


def told_by(weights, row):
    """The sum of the numbers, each times its weight."""
    return sum(weight * number for weight, number in zip(weights, row))


def least_by_trying(number, kinds):
    """The least size of weights that tell the end, over all choices of as many places as there are equations."""
    rows = [[1] * number] + [numbers_of(kind) for kind in kinds]
    sizes = []
    for places in combinations(range(number), rank(rows)):
        found = solved([[row[place] for place in places] for row in rows], [1] + [0] * len(kinds))
        if found is not None:
            sizes.append(sum(map(abs, found[0])))
    return min(sizes) if sizes else None


class Checked(unittest.TestCase):
    """All that is told of a number and kinds, held against what it has to be."""

    def check(self, number, kinds):
        rows = [[1] * number] + [numbers_of(kind) for kind in kinds]
        tells = solved(rows, [1] + [0] * len(kinds)) is not None
        weights = telling_weights(number, kinds)
        self.assertEqual(telling_weights(kinds=kinds, number=number), weights)
        multiples = blind_row(number, kinds)
        self.assertEqual(blind_row(kinds=kinds, number=number), multiples)
        self.assertEqual((weights is None, multiples is None), (not tells, tells))
        if tells:
            self.check_weights(number, kinds, weights)
            self.check_calm(number, kinds)
        else:
            self.assertEqual((type(multiples), len(multiples)), (tuple, len(kinds)))
            self.assertEqual(row_of_family(kinds, Fraction(0), numbers_of(multiples)), [1] * number)
            self.check_none(number, kinds)
        self.check_means(number, kinds)
        return weights

    def check_weights(self, number, kinds, weights):
        self.assertEqual((type(weights), len(weights)), (tuple, number))
        self.assertEqual(weights, tuple(pair(weight) for weight in numbers_of(weights)))
        self.assertEqual(sum(numbers_of(weights)), 1)
        for kind in kinds:
            self.assertEqual(told_by(numbers_of(weights), numbers_of(kind)), 0)
        self.assertIs(do_tell(number, kinds, weights), True)

    def check_calm(self, number, kinds):
        size = calmest_size(number, kinds)
        self.assertEqual(calmest_size(kinds=kinds, number=number), size)
        weights = calm_weights(number, kinds)
        self.assertEqual(calm_weights(kinds=kinds, number=number), weights)
        self.check_weights(number, kinds, weights)
        self.assertEqual(size_of_weights(weights), size)
        hiding = hiding_row(number, kinds)
        self.assertEqual(hiding_row(kinds=kinds, number=number), hiding)
        end, multiples = hiding
        self.assertEqual(end, size)
        self.assertEqual((type(hiding), type(multiples), len(multiples)), (tuple, tuple, len(kinds)))
        if kinds:
            row = row_of_family(kinds, Fraction(*end), numbers_of(multiples))
            self.assertLessEqual(max(map(abs, row)), 1)

    def check_none(self, number, kinds):
        for call in (calmest_size, calm_weights, hiding_row):
            with self.assertRaises(NotTelling) as caught:
                call(number, kinds)
            self.assertEqual(vars(caught.exception), {})
            with self.assertRaises(NotTelling):
                call(kinds=kinds, number=number)

    def check_means(self, number, kinds):
        weights, multiples = mean_weights(number, kinds), lifting_row(number, kinds)
        self.assertEqual(mean_weights(kinds=kinds, number=number), weights)
        self.assertEqual(lifting_row(kinds=kinds, number=number), multiples)
        self.assertEqual((weights is None) + (multiples is None), 1)
        if weights is not None:
            self.check_weights(number, kinds, weights)
            self.assertGreaterEqual(min(numbers_of(weights)), 0)
        else:
            self.assertEqual((type(multiples), len(multiples)), (tuple, len(kinds)))
            self.assertGreater(min(row_of_family(kinds, Fraction(0), numbers_of(multiples))), 0)


class Telling(Checked):
    def test_by_hand(self):
        self.assertEqual(telling_weights(2, slant), ((-1, 1), (2, 1)))
        self.assertIsNone(telling_weights(2, flat))
        self.assertEqual(blind_row(2, flat), ((1, 1),))
        self.assertIsNone(blind_row(2, slant))
        self.assertEqual(telling_weights(1, ()), (one,))
        self.assertEqual(blind_row(2, ((half, nil), (nil, (1, 3)))), ((2, 1), (3, 1)))
        self.assertEqual(blind_row(1, ((two,),)), ((1, 2),))
        self.assertEqual(telling_weights(1, ((nil,),)), (one,))

    def test_no_kinds(self):
        for number in range(1, 11):
            self.check(number, ())
            self.assertEqual(calmest_size(number, ()), one)
            self.assertEqual(hiding_row(number, ()), (one, ()))
            self.assertIsNone(lifting_row(number, ()))

    def test_kinds_of_noughts_and_multiples(self):
        noughts = ((nil,) * 3,)
        self.check(3, noughts)
        self.check(3, noughts * 6)
        self.check(3, fading * 6)
        self.check(3, fading + noughts + fading)
        self.check(3, ((one, half, quarter), (two, one, half), ((-1, 1), (-1, 2), (-1, 4))))
        self.check(3, ((one, nil, nil), (nil, one, one)))
        self.check(3, ((one, half, nil), (nil, half, one), noughts[0]))
        self.check(3, ((one, one, one),))
        self.check(3, ((one, nil, nil), (nil, one, nil), (nil, nil, one)))
        self.check(1, ((one,),))
        self.check(1, ((nil,),) * 6)
        self.check(10, tuple(tuple(one if at == place else nil for at in range(10)) for place in range(6)))

    def test_one_kind_less_than_numbers(self):
        # Then there is just one row of weights, if any.
        source = random.Random(501)
        for _ in range(40):
            number = source.randint(1, 7)
            kinds = random_kinds(source, number, number - 1)
            weights = self.check(number, kinds)
            rows = [[1] * number] + [numbers_of(kind) for kind in kinds]
            if rank(rows) == number:
                self.assertEqual(weights, tuple(pair(weight) for weight in solved(rows, [1] + [0] * (number - 1))[0]))

    def test_any(self):
        source = random.Random(502)
        seen = []
        for _ in range(250):
            number = source.randint(1, 10)
            seen.append(self.check(number, random_kinds(source, number, source.randint(1, 6))) is None)
        self.assertGreater(min(seen.count(True), seen.count(False)), 40)

    def test_great_numbers(self):
        source = random.Random(503)
        for _ in range(12):
            number = source.randint(2, 5)
            self.check(number, random_kinds(source, number, source.randint(1, 3), True))
        self.check(2, (((GREAT, 1), (GREAT - 1, 1)),))
        self.assertEqual(telling_weights(2, (((GREAT, 1), (GREAT - 1, 1)),)), ((1 - GREAT, 1), (GREAT, 1)))
        self.assertEqual(calmest_size(2, (((GREAT, 1), (GREAT - 1, 1)),)), (2 * GREAT - 1, 1))
        self.assertIsNone(telling_weights(2, (((GREAT, 1), (GREAT, 1)),)))
        self.assertEqual(blind_row(2, (((GREAT, 1), (GREAT, 1)),)), ((1, GREAT),))

    def test_rows_of_the_family(self):
        source = random.Random(504)
        for _ in range(40):
            number = source.randint(2, 8)
            kinds = random_kinds(source, number, source.randint(1, 3))
            end = Fraction(source.randint(-5, 5))
            multiples = [Fraction(source.randint(-5, 5), source.randint(1, 5)) for _ in kinds]
            row = row_of_family(kinds, end, multiples)
            for weights in (telling_weights(number, kinds), mean_weights(number, kinds)):
                if weights is not None:
                    self.assertEqual(told_by(numbers_of(weights), row), end)


class DoTell(unittest.TestCase):
    def check(self, number, kinds, weights, expected):
        self.assertIs(do_tell(number, kinds, weights), expected)
        self.assertIs(do_tell(weights=weights, kinds=kinds, number=number), expected)

    def test_by_hand(self):
        self.check(3, fading, (less, two, nil), True)
        self.check(3, fading, ((-1, 3), nil, (4, 3)), True)
        self.check(3, fading, (one, nil, nil), False)
        self.check(3, fading, (nil, less, two), True)
        self.check(3, fading, (nil, (-2, 1), (4, 1)), False)
        self.check(3, fading, (nil, nil, nil), False)
        self.check(2, flat, (half, half), False)
        self.check(2, flat, (one, less), False)
        self.check(2, (), (half, half), True)
        self.check(2, (), (half, (1, 3)), False)
        self.check(1, (), (one,), True)
        self.check(2, ((one, less), (one, half)), (half, half), False)
        self.check(2, ((one, half), (one, less)), (less, two), False)
        self.check(2, ((nil, nil),) * 6, (less, two), True)

    def test_refusals(self):
        names = ["number", "kinds", "weights"]
        wrong = [(value, None) for value in NOTHING if not (isinstance(value, tuple) and len(value) == 2)]
        wrong += [((), None), ((one,), None), ((one, nil, nil), None), ((one,) * 11, None), ([one, nil], None)]
        wrong += [((value, None), 0) for value in WRONG_FRACTIONS] + [((one, value), 1) for value in WRONG_FRACTIONS]
        wrongs = [given(InvalidNumber, wrong_wholes(1, 10)), indexed(InvalidKinds, WRONG_KINDS),
                  indexed(InvalidWeights, wrong)]
        for kinds in ((), slant, slant * 6):
            check_refused(self, do_tell, names, [2, kinds, (one, nil)], wrongs)
        self.check(10, (), (one,) + (nil,) * 9, True)


class Fewest(unittest.TestCase):
    def test_by_hand(self):
        self.assertEqual(fewest_numbers(3, fading), 2)
        self.assertIsNone(fewest_numbers(2, flat))
        self.assertEqual(fewest_numbers(4, ()), 1)
        self.assertEqual(fewest_numbers(3, ((one, one, half),)), 3)
        self.assertEqual(fewest_numbers(3, ((nil, one, half),)), 1)
        self.assertEqual(fewest_numbers(number=3, kinds=((nil, nil, nil),)), 1)
        self.assertEqual(fewest_numbers(4, step_kinds((one, half, quarter, (1, 8)), 3)), 4)
        self.assertEqual(fewest_numbers(4, step_kinds((one, half, quarter, (1, 8)), 2)), 3)

    def test_beside_telling_weights(self):
        source = random.Random(505)
        seen = []
        for _ in range(120):
            number = source.randint(1, 10)
            kinds = random_kinds(source, number, source.randint(0, 5))
            if kinds and source.randint(0, 1):
                # The first numbers of this kind are ones, so it takes some more to tell the end.
                many = source.randint(1, number)
                kinds += (((one,) * many + ((3, 1),) * (number - many)),)
            tells = [telling_weights(many, tuple(kind[:many] for kind in kinds)) is not None
                     for many in range(1, number + 1)]
            self.assertEqual(tells, sorted(tells))
            expected = tells.index(True) + 1 if True in tells else None
            seen.append(expected)
            self.assertEqual(fewest_numbers(number, kinds), expected)
        self.assertGreater(len({value for value in seen}), 5)


class Calmest(Checked):
    def test_by_hand(self):
        self.assertEqual(calmest_size(3, fading), (5, 3))
        self.assertEqual(calm_weights(3, fading), ((-1, 3), nil, (4, 3)))
        self.assertEqual(hiding_row(3, fading), ((5, 3), ((-8, 3),)))
        self.assertEqual(calmest_size(2, slant), (3, 1))
        self.assertEqual(hiding_row(2, slant), ((3, 1), ((-4, 1),)))

    def test_beside_all_choices_of_places(self):
        source = random.Random(506)
        for _ in range(120):
            number = source.randint(1, 7)
            kinds = random_kinds(source, number, source.randint(0, 4))
            least = least_by_trying(number, kinds)
            if least is not None:
                self.assertEqual(calmest_size(number, kinds), pair(least))
                self.check_calm(number, kinds)
            else:
                self.check_none(number, kinds)

    def test_weights_with_many_noughts(self):
        # Weights at one, two or three places tell the end, so on the way to the least size many weights are 0.
        source = random.Random(511)
        for _ in range(150):
            number = source.randint(3, 8)
            weights = [Fraction(0)] * number
            for place in source.sample(range(number), source.randint(1, 3)):
                weights[place] = Fraction(source.choice([-2, -1, 1, 2]))
            if sum(weights) == 0:
                weights[0] += 1
            weights = [weight / sum(weights) for weight in weights]
            heavy = max(range(number), key=lambda place: abs(weights[place]))
            kinds = []
            for _ in range(source.randint(1, min(5, number - 1))):
                kind = [Fraction(source.choice([-1, 0, 0, 1, 2])) for _ in range(number)]
                kind[heavy] -= told_by(weights, kind) / weights[heavy]
                kinds.append(tuple(pair(part) for part in kind))
            self.assertIs(do_tell(number, tuple(kinds), tuple(pair(weight) for weight in weights)), True)
            self.assertEqual(calmest_size(number, tuple(kinds)), pair(least_by_trying(number, kinds)))
            self.check(number, tuple(kinds))

    def test_just_one_row_of_weights(self):
        for steps in [(1, 2, 3), (1, -1), (1, Fraction(1, 2), Fraction(1, 4), Fraction(1, 8)), (5,), (-1, -2, 3, 4, 7)]:
            steps = tuple(pair(step) for step in steps)
            kinds = step_kinds(steps, len(steps) - 1)
            self.assertEqual(calm_weights(len(steps), kinds), richardson(steps))
            self.assertEqual(calmest_size(len(steps), kinds), size_of_weights(richardson(steps)))

    def test_several_weights_of_the_least_size(self):
        self.check(4, ((one, less, one, less),))
        self.assertEqual(calmest_size(4, ((one, less, one, less),)), one)
        self.check(4, (((1, 1), (1, 1), (1, 2), (1, 2)),))
        self.assertEqual(calmest_size(4, ((one, one, half, half),)), (3, 1))
        self.check(6, ((one, one, half, half, quarter, quarter),))
        self.assertEqual(calmest_size(6, ((one, one, half, half, quarter, quarter),)), (5, 3))
        self.check(10, ((one, less) * 5, (one, one, less, less, nil) * 2))

    def test_slips(self):
        # Of the hiding row and its opposite, told as noughts, any weights tell 0; the ends are the least size.
        source = random.Random(507)
        for _ in range(30):
            number = source.randint(2, 6)
            kinds = random_kinds(source, number, source.randint(1, 3))
            weights = telling_weights(number, kinds)
            if weights is not None:
                self.assertLessEqual(Fraction(*calmest_size(number, kinds)), Fraction(*size_of_weights(weights)))
                end, multiples = hiding_row(number, kinds)
                row = row_of_family(kinds, Fraction(*end), numbers_of(multiples))
                calm = numbers_of(calm_weights(number, kinds))
                self.assertEqual(told_by(calm, row), Fraction(*end))
                # So each weight other than 0 stands at a place at which the row is as far out as may be.
                self.assertTrue(all(weight == 0 or abs(told) == 1 for weight, told in zip(calm, row)))

    def test_ten_numbers_and_six_kinds(self):
        steps = tuple((1, at) for at in range(1, 11))
        for many in range(7):
            self.check(10, step_kinds(steps, many))
        self.assertLess(Fraction(*calmest_size(10, step_kinds(steps, 6))),
                        Fraction(*size_of_weights(telling_weights(10, step_kinds(steps, 6)))))

    def test_least_sizes_grow_with_kinds(self):
        source = random.Random(508)
        for _ in range(40):
            number = source.randint(2, 8)
            kinds = random_kinds(source, number, 4)
            sizes = [Fraction(*calmest_size(number, kinds[:many])) for many in range(5)
                     if telling_weights(number, kinds[:many]) is not None]
            self.assertEqual(sizes, sorted(sizes))
            self.assertEqual(sizes[0], 1)


class Means(Checked):
    def test_by_hand(self):
        self.assertEqual(mean_weights(2, ((one, less),)), (half, half))
        self.assertIsNone(lifting_row(2, ((one, less),)))
        self.assertIsNone(mean_weights(2, slant))
        self.assertGreater(lifting_row(2, slant)[0][0], 0)
        self.assertIsNone(mean_weights(2, flat))
        self.assertEqual(lifting_row(2, flat), (one,))
        self.assertLess(lifting_row(2, ((less, (-1, 2)),))[0][0], 0)
        self.assertEqual(mean_weights(2, ((nil, one),)), (one, nil))
        self.assertIsNone(lifting_row(2, ((nil, one),)))
        self.assertEqual(mean_weights(3, ((one, nil, less), (nil, one, less))), ((1, 3), (1, 3), (1, 3)))

    def test_noughts_at_some_place_lift_nothing(self):
        for number in range(1, 6):
            kinds = tuple(tuple(one if at == place else nil for at in range(number)) for place in range(1, number))
            self.check(number, kinds)
            self.assertEqual(mean_weights(number, kinds), (one,) + (nil,) * (number - 1))

    def test_any(self):
        source = random.Random(509)
        seen = []
        for _ in range(150):
            number = source.randint(1, 8)
            kinds = random_kinds(source, number, source.randint(0, 5))
            self.check_means(number, kinds)
            seen.append(mean_weights(number, kinds) is None)
            if telling_weights(number, kinds) is not None:
                self.assertEqual(calmest_size(number, kinds) != one, seen[-1])
        self.assertGreater(min(seen.count(True), seen.count(False)), 30)


class Richardson(unittest.TestCase):
    def test_by_hand(self):
        self.assertEqual(richardson((one, half)), ((-1, 1), (2, 1)))
        self.assertEqual(richardson((one, half, quarter)), ((1, 3), (-2, 1), (8, 3)))
        for step in (one, less, (GREAT, 1), (-1, GREAT)):
            self.assertEqual(richardson((step,)), (one,))
        self.assertEqual(richardson((one, less)), (half, half))
        self.assertEqual(richardson(steps=((-1, 1), (-2, 1))), ((2, 1), (-1, 1)))

    def test_from_one_to_ten_steps(self):
        source = random.Random(510)
        for number in range(1, 11):
            for _ in range(6):
                chosen = set()
                while len(chosen) < number:
                    chosen.add(Fraction(source.choice([-1, 1]) * source.randint(1, 9), source.randint(1, 5)))
                steps = tuple(pair(step) for step in source.sample(sorted(chosen), number))
                weights = richardson(steps)
                rows = [[step ** power for step in numbers_of(steps)] for power in range(number)]
                self.assertEqual(weights, tuple(pair(found) for found in solved(rows, [1] + [0] * (number - 1))[0]))
                if number <= 7:
                    self.assertEqual(telling_weights(number, step_kinds(steps, number - 1)), weights)

    def test_great_steps(self):
        steps = ((GREAT, 1), (GREAT + 1, 1), (1, GREAT))
        weights = numbers_of(richardson(steps))
        for power in range(3):
            self.assertEqual(told_by(weights, [step ** power for step in numbers_of(steps)]), 1 if power == 0 else 0)

    def test_refusals(self):
        check_refused(self, richardson, ["steps"], [(one, half)], [indexed(InvalidSteps, WRONG_STEPS)])
        self.assertEqual(len(richardson(tuple((at, 1) for at in range(1, 11)))), 10)


class StepKinds(unittest.TestCase):
    def test_by_hand(self):
        self.assertEqual(step_kinds((one, half), 2), ((one, half), (one, quarter)))
        self.assertEqual(step_kinds((one, half), 0), ())
        self.assertEqual(step_kinds(many=1, steps=((-2, 3),)), (((-2, 3),),))
        self.assertEqual(step_kinds(((-2, 3), (3, 1)), 3)[2], ((-8, 27), (27, 1)))

    def test_powers(self):
        steps = tuple((at - 20, 7) for at in (1, 2, 3, 5, 26, 28, 30, 31))
        for many in range(7):
            found = step_kinds(steps, many)
            expected = [[number ** power for number in numbers_of(steps)] for power in range(1, many + 1)]
            self.assertEqual([numbers_of(row) for row in found], expected)
            self.assertEqual(found, tuple(tuple(pair(number) for number in row) for row in expected))

    def test_refusals(self):
        wrongs = [indexed(InvalidSteps, WRONG_STEPS), given(InvalidNumber, wrong_wholes(0, 6))]
        for many in (0, 6):
            check_refused(self, step_kinds, ["steps", "many"], [(one, (-1, 2)), many], wrongs)


class Sizes(unittest.TestCase):
    def test_by_hand(self):
        self.assertEqual(size_of_weights((half, (-3, 2), (2, 1))), (4, 1))
        self.assertEqual(size_of_weights((nil,)), nil)
        self.assertEqual(size_of_weights(weights=((-1, 3), (1, 6))), half)
        self.assertEqual(size_of_weights(((-GREAT, 1), (1, GREAT)) * 5), pair(5 * (GREAT + Fraction(1, GREAT))))

    def test_refusals(self):
        check_refused(self, size_of_weights, ["weights"], [(one,) * 10], [indexed(InvalidWeights, wrong_tuples(10))])


class Refusals(unittest.TestCase):
    def test_number_and_kinds(self):
        wrongs = [given(InvalidNumber, wrong_wholes(1, 10)), indexed(InvalidKinds, WRONG_KINDS)]
        for call in (telling_weights, blind_row, fewest_numbers, calmest_size, calm_weights, hiding_row, mean_weights,
                     lifting_row):
            for kinds in ((), slant, slant * 6):
                check_refused(self, call, ["number", "kinds"], [2, kinds], wrongs)
            call(1, ())
            call(10, (tuple((at, 1) for at in range(1, 11)),) * 6)

    def test_telling_comes_last(self):
        for call in (calmest_size, calm_weights, hiding_row):
            with self.assertRaises(InvalidKinds):
                call(2, flat + (None,))
            with self.assertRaises(NotTelling):
                call(2, flat)


if __name__ == "__main__":
    unittest.main()
