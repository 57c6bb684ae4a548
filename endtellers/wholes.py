"""Polynomials of whole numbers: lists, the lowest power first, the last number not 0; [] is nought."""

from math import gcd


def trimmed(numbers):
    """The numbers without the noughts at their end."""
    many = len(numbers)
    while many > 0 and numbers[many - 1] == 0:
        many -= 1
    return numbers[:many]


def undelayed(numbers):
    """The numbers without the noughts ahead of them: all powers of the unknown are taken out."""
    first = 0
    while numbers[first] == 0:
        first += 1
    return numbers[first:]


def primitive(numbers):
    """The numbers divided by their greatest common divisor."""
    shared = 0
    for number in numbers:
        shared = gcd(shared, number)
        if shared == 1:
            return list(numbers)
    return [number // shared for number in numbers]


def plus(first, second):
    """The sum of two polynomials."""
    many = max(len(first), len(second))
    longer, other = first + [0] * (many - len(first)), second + [0] * (many - len(second))
    return trimmed([number + more for number, more in zip(longer, other)])


def multiple(numbers, factor):
    """The numbers, each times the factor."""
    return [factor * number for number in numbers]


def times(first, second):
    """The product of two polynomials."""
    if not first or not second:
        return []
    out = [0] * (len(first) + len(second) - 1)
    for at, number in enumerate(first):
        for further, factor in enumerate(second):
            out[at + further] += number * factor
    return out


def derived(numbers):
    """The derivative of a polynomial."""
    return [at * number for at, number in enumerate(numbers)][1:]


def powers(number, many):
    """The first so many powers of a number, from the power 0 on."""
    out = []
    power = 1
    for _ in range(many):
        out.append(power)
        power *= number
    return out


def spread(numbers, top, under):
    """The polynomial at z times top / under, all of it times the power of under that leaves whole numbers."""
    many = len(numbers)
    ups, downs = powers(top, many), powers(under, many)[::-1]
    return [number * up * down for number, up, down in zip(numbers, ups, downs)]


def less_multiple(numbers, factor, part):
    """The numbers less the factor times the part, the last number of both standing at one place."""
    out = list(numbers)
    start = len(numbers) - len(part)
    for at, number in enumerate(part):
        out[start + at] -= factor * number
    return trimmed(out)


def rest(numbers, part):
    """A number above 0 times what is left of the numbers when they are divided by the part."""
    left, last = list(numbers), part[-1]
    while len(left) >= len(part):
        shared = gcd(left[-1], last)
        scale, factor = last // shared, left[-1] // shared
        # Signs are read off the rest, so it may be scaled by a number above 0 alone.
        if scale < 0:
            scale, factor = -scale, -factor
        left = less_multiple(multiple(left, scale), factor, part)
    return left


def quotient(numbers, part):
    """The polynomial of whole numbers that gives the numbers, times the part; None if there is none."""
    left, last = list(numbers), part[-1]
    out = [0] * (len(numbers) - len(part) + 1)
    while len(left) >= len(part):
        factor, over = divmod(left[-1], last)
        if over != 0:
            return None
        out[len(left) - len(part)] = factor
        left = less_multiple(left, factor, part)
    return None if left else out


def worth_at(numbers, place):
    """What the polynomial is at a whole number."""
    total = 0
    for number in reversed(numbers):
        total = total * place + number
    return total


def read_back(worth, place):
    """The polynomial that has this worth at the place, its numbers without signs being at most half of the place."""
    out = []
    while worth != 0:
        worth, number = divmod(worth, place)
        if 2 * number > place:
            worth, number = worth + 1, number - place
        out.append(number)
    return out


def common_divisor(first, second):
    """The common part of two polynomials other than nought, in numbers without a common divisor, the last above 0.

    At a place both are worth whole numbers; off the common divisor of these a polynomial is read and made primitive.
    If it divides both, it is their whole common part: another factor that both had would be worth a divisor of the
    number taken out by this, so at most half of the place. But all zeros of the one with the lesser numbers are
    further than half of the place from it, so this factor has none. And there is an end of trying: what the two
    numbers have in common beside the worth of the common part divides one number, the same for all places.
    """
    first, second = primitive(first), primitive(second)
    least = min(max(map(abs, first)), max(map(abs, second)))
    place = 4096 * (least + 1)
    while True:
        found = primitive(read_back(gcd(worth_at(first, place), worth_at(second, place)), place))
        if quotient(first, found) is not None and quotient(second, found) is not None:
            return found
        place *= place


def common_multiple(first, second):
    """The polynomial of the least degree that both divide, the two being other than nought."""
    return quotient(times(first, second), common_divisor(first, second))


def often_divided(numbers, part):
    """How often one behind the other the numbers can be divided by a part without a common divisor."""
    often = 0
    left = quotient(numbers, part)
    while left is not None:
        often += 1
        left = quotient(left, part)
    return often
