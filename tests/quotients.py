"""Quotients of known factors: what tellers are asked for is known of them without any division."""

from fractions import Fraction

from tests.making import multiplied, pair, polynomial

# A factor is a tuple of numbers, all its zeros of one size: one zero of two numbers, two zeros, not real, of three.
Z, AT_ONE, AT_LESS = (0, 1), (-1, 1), (1, 1)
FACTORS = [
    AT_ONE, AT_LESS, (-2, 1), (2, 1), (Fraction(-1, 2), 1), (Fraction(1, 3), 1), (Fraction(-3, 2), 1), (1, 0, 1),
    (1, 1, 1), (1, Fraction(-6, 5), 1), (4, 1, 1), (Fraction(9, 4), -1, 1), (Fraction(1, 4), 0, 1),
    (Fraction(9, 10), 1, 1), (Fraction(11, 10), -1, 1),
]


def worth(numbers, at):
    """What a list of numbers is worth at a number."""
    return sum(number * Fraction(at) ** power for power, number in enumerate(numbers))


def square_of_size(factor):
    """The square of the size of the zeros of a factor, its last number 1."""
    return Fraction(factor[0]) ** (2 if len(factor) == 2 else 1)


class Quotient:
    """A number times factors, each so often as told: above if that is above 0, below otherwise."""

    def __init__(self, number, often):
        self.number = Fraction(number)
        self.often = {factor: many for factor, many in often.items() if many != 0}

    def lists(self):
        """The numbers of TOP and UNDER of the plain form."""
        tops = multiplied(*[factor for factor, many in self.often.items() for _ in range(many)])
        unders = multiplied(*[factor for factor, many in self.often.items() for _ in range(-many)])
        return [self.number * number / unders[0] for number in tops], [number / unders[0] for number in unders]

    def plain(self):
        """The plain form."""
        tops, unders = self.lists()
        return polynomial(*tops), polynomial(*unders)

    def pair(self, *shared):
        """A form with these factors besides, above and below."""
        tops, unders = self.lists()
        return polynomial(*multiplied(tops, *shared)), polynomial(*multiplied(unders, *shared))

    def times(self, other):
        """The product of both."""
        often = {factor: self.count(factor) + other.count(factor) for factor in [*self.often, *other.often]}
        return Quotient(self.number * other.number, often)

    def over(self, other):
        """The one over the other."""
        return self.times(Quotient(1 / other.number, {factor: -many for factor, many in other.often.items()}))

    def count(self, factor):
        """How often the factor comes."""
        return self.often.get(factor, 0)

    def worth(self, at):
        """What it is worth at a number where no factor is 0."""
        total = self.number
        for factor, many in self.often.items():
            total *= worth(factor, at) ** many
        return total

    def undelayed(self):
        """It without all powers of z."""
        return Quotient(self.number, {factor: many for factor, many in self.often.items() if factor != Z})

    def is_free(self, size):
        """Whether no zero of UNDER has a size up to this one."""
        return all(many > 0 or square_of_size(factor) > size ** 2 for factor, many in self.often.items())

    def is_fair(self):
        """Whether it is worth 1 at 1."""
        return self.count(AT_ONE) == 0 and self.worth(1) == 1

    def straying(self):
        """The word that is asked for."""
        if not self.is_free(1):
            return "pulse"
        return None if self.is_fair() else "ones"

    def keeps_ends(self):
        """Whether it keeps ends."""
        return self.straying() is None

    def end(self):
        """At what the row of its numbers settles; None if it does not."""
        poles = self.count(AT_ONE)
        rest = self.times(Quotient(-1, {AT_ONE: 1}))
        if poles < -1 or not (self if poles >= 0 else rest).is_free(1):
            return None
        return pair(0) if poles >= 0 else pair(rest.worth(1))

    def orders(self):
        """The least order the means of its numbers settle with, and their end; None for both if there is none."""
        poles = self.count(AT_ONE)
        if poles < -1 or any(many < 0 and square_of_size(factor) < 1 for factor, many in self.often.items()):
            return None, None
        turns = [-many for factor, many in self.often.items() if factor != AT_ONE and square_of_size(factor) == 1]
        order = max([0] + turns)
        return order, pair(self.times(Quotient(-1, {AT_ONE: 1})).worth(1) if poles == -1 else 0)

    def settles_by(self, share):
        """Whether its numbers settle by the share."""
        if self.count(AT_ONE) < -1:
            return False
        poles = [(square_of_size(factor) * share ** 2, -many)
                 for factor, many in self.often.items() if factor != AT_ONE and many < 0]
        return all(square > 1 or (square == 1 and often == 1) for square, often in poles)

    def plus(self, other):
        """The numbers of TOP and UNDER of the sum of both."""
        tops, unders = self.lists()
        other_tops, other_unders = other.lists()
        first, second = multiplied(tops, other_unders), multiplied(other_tops, unders)
        many = max(len(first), len(second))
        first, second = [numbers + [0] * (many - len(numbers)) for numbers in (first, second)]
        return [low + high for low, high in zip(first, second)], multiplied(unders, other_unders)


PULSE = Quotient(1, {})
ONES = Quotient(-1, {AT_ONE: -1})


def fair(often):
    """The fair quotient of the factors, none of which is 0 at 1."""
    return Quotient(1 / Quotient(1, often).worth(1), often)


def random_often(source, factors=None, most=2, delay=2):
    """Some of the factors, each up to so often above or below, and z above alone."""
    factors = factors or FACTORS
    chosen = source.sample(factors, min(source.randint(0, 4), len(factors)))
    often = {factor: source.choice([1, 1, -1, -1, most, -most]) for factor in chosen}
    often[Z] = source.randint(0, delay)
    return often


def random_fair(source, factors=None, most=2, delay=2):
    """A fair quotient of some of the factors."""
    often = random_often(source, factors, most, delay)
    often.pop(AT_ONE, None)
    return fair(often)


def random_quotient(source, factors=None, most=2, delay=2):
    """A quotient of some of the factors, fair ones among them."""
    if source.randint(0, 1) == 0:
        return random_fair(source, factors, most, delay)
    number = Fraction(source.choice([1, -1, 2, -3]), source.randint(1, 4))
    return Quotient(number, random_often(source, factors, most, delay))


def random_shared(source):
    """Some lists of numbers, not 0 at 0, that may stand above and below."""
    lists = []
    for _ in range(source.randint(0, 2)):
        numbers = [Fraction(source.randint(-3, 3), source.randint(1, 3)) for _ in range(source.randint(1, 3))]
        lists.append([source.choice([-2, Fraction(1, 3), 5]), *numbers, source.choice([-1, Fraction(5, 2)])])
    return lists + [list(source.choice([(1,), AT_ONE, AT_LESS, (-7,), (Fraction(1, 3), 1)]))]


def series(tops, unders, many):
    """So many first numbers of the quotient of two lists of numbers."""
    out = []
    for at in range(many):
        total = Fraction(tops[at]) if at < len(tops) else Fraction(0)
        for back in range(1, min(at + 1, len(unders))):
            total -= unders[back] * out[at - back]
        out.append(total / unders[0])
    return out
