"""Sturm's chains: from their signs alone real zeros are counted."""

from endtellers.wholes import derived, primitive, rest


def sign_chain(first, second):
    """The chain of two polynomials: behind any two stands the opposite of what their division leaves.

    All are known but for factors above 0. The last one is the common part of the first two.
    """
    chain = [primitive(first)]
    coming = primitive(second)
    while coming:
        chain.append(coming)
        coming = [-number for number in primitive(rest(chain[-2], chain[-1]))]
    return chain


def sign_changes(numbers):
    """How often numbers other than 0 have another sign than the one before them."""
    return sum([1 for low, high in zip(numbers, numbers[1:]) if (low < 0) != (high < 0)])


def jumps(chain):
    """How often the second polynomial of a chain over the first one jumps, on the whole line, up rather than down."""
    highs = [numbers[-1] for numbers in chain]
    lows = [numbers[-1] if len(numbers) % 2 == 1 else -numbers[-1] for numbers in chain]
    return sign_changes(lows) - sign_changes(highs)


def real_zeros(numbers):
    """How many unlike real zeros come once or more, twice or more, and so on, up to those that come most often."""
    found = []
    while len(numbers) > 1:
        chain = sign_chain(numbers, derived(numbers))
        many = jumps(chain)
        if many == 0:
            break
        found.append(many)
        numbers = chain[-1]
    return found
