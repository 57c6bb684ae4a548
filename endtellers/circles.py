"""Zeros within, on and beyond the circle around 0 with the radius 1, of polynomials of whole numbers.

With z = (1 + w) / (1 - w) the numbers z within the circle are the w to the left of the line of all i y, y real, and
those on it are this line, but for - 1, for which there is no w; 1 is the w 0.
"""

from endtellers.chains import jumps, real_zeros, sign_chain
from endtellers.wholes import trimmed, undelayed

# The powers of i, by turns of real ones and of multiples of i.
TURNS = (1, 1, -1, -1)


def across(numbers):
    """The polynomial at (1 + w) / (1 - w), times the power of 1 - w that leaves a polynomial in w.

    The zero - 1 leaves a nought at its end for each time it comes.
    """
    out, power = [numbers[-1]], [1]
    for number in reversed(numbers[:-1]):
        power = [low - high for low, high in zip(power + [0], [0] + power)]
        out = [low + high + number * part for low, high, part in zip(out + [0], [0] + out, power)]
    return out


def line_chain(line):
    """The chain of the real and the imaginary part of a polynomial at i y, the one of the higher degree first."""
    turned = [number * TURNS[at % 4] for at, number in enumerate(line)]
    real = trimmed([number if at % 2 == 0 else 0 for at, number in enumerate(turned)])
    imaginary = trimmed([number if at % 2 == 1 else 0 for at, number in enumerate(turned)])
    if len(real) > len(imaginary):
        return sign_chain(real, imaginary)
    return sign_chain(imaginary, real)


def surplus_of_left(chain):
    """How many more zeros of a polynomial with this line_chain are to the left of the line than to its right.

    Each such zero more lets the polynomial go half a turn further round 0 along the line; what the lower part over
    the higher one jumps counts these, in the sense that depends on which of both is the real one.
    """
    degree = len(chain[0]) - 1
    return jumps(chain) if degree % 2 == 1 else -jumps(chain)


def circle_counts(numbers):
    """How many zeros are within the circle, on it and beyond it."""
    line = trimmed(across(numbers))
    chain = line_chain(line)
    # Zeros of the common part are on the line, or lie in pairs mirrored by it that the surplus does not count.
    on_line = sum(real_zeros(chain[-1]))
    within = (len(line) - 1 - on_line + surplus_of_left(chain)) // 2
    on_circle = on_line + len(numbers) - len(line)
    return within, on_circle, len(numbers) - 1 - within - on_circle


def most_on_circle(numbers):
    """How often that zero on the circle, other than 1, comes that comes most often; 0 if there is none."""
    line = trimmed(across(numbers))
    common = line_chain(line)[-1]
    return max(len(numbers) - len(line), len(real_zeros(undelayed(common))))
