"""Where on the stretch from 0 to 1 a polynomial of whole numbers is below 0."""

from endtellers.chains import sign_chain, sign_changes
from endtellers.wholes import common_divisor, derived, powers, primitive, quotient


def scaled_worth(numbers, at, parts):
    """What the polynomial is at at / parts, times the power of parts that leaves a whole number."""
    total = 0
    for number, power in zip(reversed(numbers), powers(parts, len(numbers))):
        total = total * at + number * power
    return total


def simple_chain(numbers):
    """Sturm's chain of the polynomial that has each zero of the numbers, other than nought, once."""
    changes = derived(numbers)
    if not changes:
        return [numbers]
    simple = quotient(primitive(numbers), common_divisor(numbers, changes))
    return sign_chain(simple, derived(simple))


def changes_at(chain, at, parts):
    """How often the signs of the chain change at at / parts."""
    worths = [scaled_worth(numbers, at, parts) for numbers in chain]
    return sign_changes([worth for worth in worths if worth != 0])


def zeros_between(chain, at, parts):
    """How many zeros of the first one of a chain lie above at / parts and below (at + 1) / parts."""
    found = changes_at(chain, at, parts) - changes_at(chain, at + 1, parts)
    return found - 1 if scaled_worth(chain[0], at + 1, parts) == 0 else found


def place_below(numbers):
    """A pair (k, m), k from 0 to m: at k / m the polynomial, or nought, is below 0; None if it is so nowhere.

    Of a part of the stretch both ends and the middle are tried. Nothing below 0 is left in it if there is no zero
    between its ends, or if there is one alone and at both ends the polynomial is above 0; otherwise it is halved.
    """
    if not numbers:
        return None
    chain = simple_chain(numbers)
    waiting = [(0, 1)]
    while waiting:
        at, parts = waiting.pop()
        worths = [scaled_worth(numbers, 2 * at + more, 2 * parts) for more in range(3)]
        for more, worth in enumerate(worths):
            if worth < 0:
                return 2 * at + more, 2 * parts
        many = zeros_between(chain, at, parts)
        if many > 1 or (many == 1 and 0 in (worths[0], worths[2])):
            waiting.append((2 * at + 1, 2 * parts))
            waiting.append((2 * at, 2 * parts))
    return None
