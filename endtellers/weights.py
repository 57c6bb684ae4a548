"""Weights that tell the end of all rows of a family from its first numbers, and how much slips harm them."""

from endtellers.errors import InvalidKinds, InvalidSteps, InvalidWeights, NotTelling
from endtellers.polynomials import cleared
from endtellers.programs import blind_multiples, least_program, solved, weights_held
from endtellers.ratios import NIL, ONE, check_whole, is_fraction, lowest, wrong_index

MOST_NUMBER = 10
MOST_KINDS = 6
MOST_STEPS = 10
MOST_WEIGHTS = 10
MOST_POWERS = 6


def is_fraction_row(value, number):
    """Whether a value, whatever it is, is a row of so many fractions."""
    return type(value) is tuple and len(value) == number and wrong_index(value, number) is None


def check_kinds(number, value):
    """Refuse what is no number of places, or no kinds for it."""
    check_whole(number, 1, MOST_NUMBER)
    if type(value) is not tuple:
        raise InvalidKinds(None)
    for index, kind in enumerate(value):
        if index == MOST_KINDS or not is_fraction_row(kind, number):
            raise InvalidKinds(index)


def check_weights(value):
    """Refuse what is no tuple of one fraction or more, up to the most."""
    if type(value) is not tuple or len(value) == 0:
        raise InvalidWeights(None)
    index = wrong_index(value, MOST_WEIGHTS)
    if index is not None:
        raise InvalidWeights(index)


def check_steps(value):
    """Refuse what is no tuple of one unlike fraction other than 0 or more, up to the most."""
    if type(value) is not tuple or len(value) == 0:
        raise InvalidSteps(None)
    for index, step in enumerate(value):
        if index == MOST_STEPS or not is_fraction(step) or step == NIL or step in value[:index]:
            raise InvalidSteps(index)


def size_of_weights(weights):
    """The sum of the weights without their signs."""
    check_weights(weights)
    numbers, shared = cleared(weights)
    return lowest(sum(map(abs, numbers)), shared)


def do_tell(number, kinds, weights):
    """Whether the weights tell the end of all rows of the family."""
    check_kinds(number, kinds)
    if type(weights) is not tuple or len(weights) != number:
        raise InvalidWeights(None)
    check_weights(weights)
    numbers, shared = cleared(weights)
    if sum(numbers) != shared:
        return False
    for kind in kinds:
        if sum([part * weight for part, weight in zip(cleared(kind)[0], numbers)]) != 0:
            return False
    return True


def family_row(number, kinds, end, multiples):
    """The numbers of the row of the family with this end and these multiples of the kinds."""
    out = []
    for place in range(number):
        parts = [(top * kind[place][0], under * kind[place][1]) for (top, under), kind in zip(multiples, kinds)]
        numbers, shared = cleared([end] + parts)
        out.append(lowest(sum(numbers), shared))
    return tuple(out)


def telling_weights(number, kinds):
    """Weights that tell the end of all rows of the family; None if there are none."""
    check_kinds(number, kinds)
    table, held, scale = solved(number, kinds)
    if blind_multiples(number, table, held) is not None:
        return None
    return weights_held(number, table, held, scale)


def blind_row(number, kinds):
    """Multiples of the kinds of which the sum is the row of ones; None if there are none."""
    check_kinds(number, kinds)
    table, held, _ = solved(number, kinds)
    return blind_multiples(number, table, held)


def fewest_numbers(number, kinds):
    """The least number of first numbers from which weights tell the end; None if all do not."""
    check_kinds(number, kinds)
    for many in range(1, number + 1):
        if telling_weights(many, tuple([kind[:many] for kind in kinds])) is not None:
            return many
    return None


def calmest(number, kinds):
    """Weights of the least size that tell the end, this size, and the multiples of a hiding row."""
    check_kinds(number, kinds)
    found = least_program(number, kinds)
    if found is None:
        raise NotTelling()
    return found


def calmest_size(number, kinds):
    """The least size of weights that tell the end."""
    return calmest(number, kinds)[1]


def calm_weights(number, kinds):
    """Weights of the least size that tell the end."""
    return calmest(number, kinds)[0]


def hiding_row(number, kinds):
    """The end and the multiples of a row of the family: its numbers are from - 1 to 1, its end is the least size."""
    _, size, multiples = calmest(number, kinds)
    return size, multiples


def mean_weights(number, kinds):
    """Weights from 0 on that tell the end; None if there are none."""
    check_kinds(number, kinds)
    found = least_program(number, kinds)
    # Weights with the sum 1 are of the size 1 exactly if none is below 0.
    if found is None or found[1] != ONE:
        return None
    return found[0]


def lifting_row(number, kinds):
    """Multiples of the kinds of which the sum is above 0 at all places; None if there are none."""
    check_kinds(number, kinds)
    found = least_program(number, kinds)
    if found is None:
        return blind_row(number, kinds)
    # A hiding row with an end above 1 has its numbers up to 1: the sum of its multiples is below 0 at all places.
    if found[1] == ONE:
        return None
    return tuple([(-top, under) for top, under in found[2]])


def richardson(steps):
    """The weights that tell the end of all rows of the steps' powers below their number."""
    check_steps(steps)
    numbers, _ = cleared(steps)
    out = []
    for at, step in enumerate(numbers):
        top, under = 1, 1
        for other in numbers[:at] + numbers[at + 1:]:
            top, under = top * other, under * (other - step)
        out.append(lowest(top, under))
    return tuple(out)


def step_kinds(steps, many):
    """The rows of the steps' powers 1, 2, .., so many."""
    check_steps(steps)
    check_whole(many, 0, MOST_POWERS)
    out = []
    row = steps
    for _ in range(many):
        out.append(row)
        row = tuple([(top * step[0], under * step[1]) for (top, under), step in zip(row, steps)])
    return tuple(out)
