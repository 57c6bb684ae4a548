"""Polynomials that are made of known zeros, and values that are wrong, for the tests."""

from fractions import Fraction


def pair(number):
    """The pair of a number."""
    number = Fraction(number)
    return (number.numerator, number.denominator)


def polynomial(*numbers):
    """The tuple of pairs of numbers, the lowest power first."""
    return tuple(pair(number) for number in numbers)


def numbers_of(value):
    """The numbers of a polynomial."""
    return [Fraction(top, under) for top, under in value]


def multiplied(*factors):
    """The numbers of a product, each factor a list of numbers."""
    out = [Fraction(1)]
    for factor in factors:
        longer = [Fraction(0)] * (len(out) + len(factor) - 1)
        for at, number in enumerate(out):
            for further, other in enumerate(factor):
                longer[at + further] += number * other
        out = longer
    return out


def made_of(*factors):
    """The polynomial that is the product of the factors, each a list of numbers."""
    return polynomial(*multiplied(*factors))


def nested(depth):
    """A tuple nested so deep."""
    value = ()
    for _ in range(depth - 1):
        value = (value,)
    return value


class Odd:
    """A value that may be asked for nothing."""

    def __eq__(self, other):
        raise AssertionError("compared")

    __hash__ = None

    def __bool__(self):
        raise AssertionError("tested")

    def __len__(self):
        raise AssertionError("measured")


ONE = (1, 1)

# Nobody takes these for a number, a fraction, a polynomial, or anything else.
NOTHING = [
    None, "", "1", "one", b"", b"1/2", {}, {1: 2}, {(1, 1): (1, 1)}, set(), {1}, frozenset(), [], [1, 1], [(1, 1)],
    object(), Odd(), Ellipsis, NotImplemented, int, len, ValueError("x"), nested(14), [nested(13)], range(2), 1j,
    iter(()), (None,), ("1", "2"), ("ab",), (Odd(), Odd()), (Odd(),), ((Odd(), 1),), ((1, Odd()),), ((1, 1), Odd()),
]

WRONG_FRACTIONS = NOTHING + [
    (), 0, 1, -1, True, False, (1,), (1, 1, 1), (1, 0), (0, 0), (1, -1), (-1, -2), (0, 2), (0, -1), (2, 2), (2, 4),
    (-2, 4), (3, -1), (True, 1), (1, True), (False, 1), (True, True), ((1, 1), 1), (1, (1, 1)), ((1, 1),),
    ((1, 1), (1, 1)), ("1", 1), (1, None), [1, 2], {1, 2}, "12", (10 ** 399, 10 ** 398), (1 << 70, 2), (6, 9),
]

NOT_ABOVE_NOUGHT = [(0, 1), (-1, 1), (-1, 2), (-(10 ** 399), 1), (-1, 10 ** 399)]

WRONG_POLYNOMIALS = NOTHING + [
    (), 0, 1, True, (1, 1), (1,), ((0, 1),), (ONE, (0, 1)), (ONE, ONE, (0, 1)), ((0, 1), (0, 1)), (ONE, (2, 2)),
    ((2, 4), ONE), (ONE, (1, 0)), (ONE, (1, -1)), (ONE, (-1, -1)), ((1, 0),), ((0, 2), ONE), (ONE, 1), (1, ONE),
    (ONE, True), (ONE, (True, 1)), ((1, True), ONE), (ONE, (False, 1), ONE), [ONE], (ONE, [1, 1]), [[1, 1]],
    ([1, 1],), ((ONE,),), (ONE, (ONE,)), ((ONE, ONE),), (ONE, ()), ((1, 1, 1),), ((1,),), (ONE, None), (ONE, "1"),
    ("11",), ({1: 1},), ({1, 2},), {ONE: ONE}, ("ab", "cd"), ((1, "1"),),
]

# Neither tellers nor rows.
WRONG_ROWS = NOTHING + [
    (), 0, 1, True, ONE, (ONE, ONE), ((ONE,),), ((ONE,), (ONE,), (ONE,)), [(ONE,), (ONE,)], ([ONE], (ONE,)),
    ((ONE,), [ONE]), ((ONE,), ()), ((), ()), ((ONE,), ((0, 1),)), (((0, 1),), (ONE,)),
    ((ONE,), ((0, 1), ONE)), ((ONE, ONE), ((0, 1), (0, 1), ONE)), (((0, 1), ONE), ((0, 1), ONE)),
    ((ONE, (0, 1)), (ONE,)), ((ONE,), (ONE, (0, 1))), ((ONE, (2, 2)), (ONE,)), ((ONE,), ((2, 2),)),
    ((ONE,), ((True, 1),)), ((ONE,), 1), (1, (ONE,)), ((ONE,), None), (None, (ONE,)), ((ONE,), Odd()),
    (Odd(), (ONE,)), ((ONE,), (ONE, Odd())), "ab", {(ONE,): (ONE,)}, (((ONE,), (ONE,)), (ONE,)), ((1, 1), (1, 2)),
    ((), ((0, 1),)), ((), ((0, 1), ONE)), ([], (ONE,)), ((), [ONE]), ((), (ONE, (0, 1))), ("", (ONE,)), ((), "1"),
    ((), (ONE,), ()), ((),), ((), Odd()), (None, (ONE,)), (False, (ONE,)), (((),), (ONE,)),
]

WRONG_TELLERS = WRONG_ROWS + [((), (ONE,)), ((), (ONE, ONE)), ((), ((2, 1), (-1, 3)))]

# Beside each of them the index of the first element that is wrong.
WRONG_NUMBERS = [(value, None) for value in NOTHING if not isinstance(value, tuple)] + [
    ((value, ONE), 0) for value in WRONG_FRACTIONS
] + [
    ((ONE, (1, 2), value), 2) for value in WRONG_FRACTIONS
] + [
    (nested(14), 0), (0, None), (True, None), ([ONE], None), ("11", None), ({ONE: ONE}, None), (iter([ONE]), None),
    ((1, 1), 0), ((1,), 0), ((ONE, ONE, (2, 2)), 2), ((ONE, 1, None), 1), ((ONE, [1, 1]), 1), ((ONE, (True, 1)), 1),
    ((ONE, (1, 0), ONE), 1), (((1, -1), ONE), 0), ((ONE, ONE, ONE, ()), 3), ((ONE, Odd(), Odd()), 1),
    ((ONE, None, 1), 1), (((ONE, ONE),), 0), (tuple([ONE] * 59 + [True]), 59), ((None, ONE), 0),
]

WRONG_MANY = NOTHING + [(), 0, -1, -1000, 1001, 1002, 10 ** 399, True, False, (1, 1), (5,), "5", [5], {5: 5}]

# Wrong for all that takes fractions from some to some.
BELOW_NOUGHT = [(-1, 1), (-1, 2), (-(10 ** 399), 1), (-1, 10 ** 399)]
NOT_BELOW_ONE = [(1, 1), (2, 1), (10 ** 399 + 1, 10 ** 399), (3, 2)]
WRONG_SHARES = WRONG_FRACTIONS + NOT_ABOVE_NOUGHT + NOT_BELOW_ONE
WRONG_FROM_NOUGHT = WRONG_FRACTIONS + BELOW_NOUGHT


def wrong_wholes(low, high):
    """Values that are no whole numbers from the one to the other."""
    return NOTHING + [
        (), low - 1, low - 2, high + 1, high + 2, -(10 ** 399), 10 ** 399, True, False, (1, 1), (low,), (low, 1),
        str(low), [low], {low: low},
    ]


def wrong_tuples(most):
    """Values that are no tuples of one to so many fractions, each with the index of the first wrong one, or None."""
    wrong = [(value, index) for value, index in WRONG_NUMBERS if index is None or index < most]
    return wrong + [((), None), ((ONE,) * (most + 1), most), ((ONE,) * most + (None,), most),
                    ((ONE,) * (most - 1) + (Odd(), ONE, ONE), most - 1), (((1, 2),) * 60, most)]


GREAT_FRACTIONS = [(10 ** 399, 1), (1, 10 ** 399), (10 ** 399 + 1, 10 ** 399), (10 ** 399, 10 ** 399 + 1)]
