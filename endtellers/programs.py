"""Weights that tell the end of the rows of a family, and those of the least size, by a straight program.

A table has a row of ones and one for each kind. Its first columns are the places of the numbers; those behind them
tell of which sum the row is: how much of the ones, and which multiple of each kind.
"""

from endtellers.equations import eliminated, exchanged
from endtellers.polynomials import cleared
from endtellers.ratios import lowest


def first_table(number, kinds):
    """The rows of ones and of the kinds, each with what it is a sum of, in whole numbers."""
    table = [[1] * number + [1] + [0] * len(kinds)]
    for at, kind in enumerate(kinds):
        numbers, shared = cleared(kind)
        parts = [0] * len(kinds)
        parts[at] = shared
        table.append(numbers + [0] + parts)
    return table


def solved(number, kinds):
    """The table in which rows hold places alone, the places, and the scale."""
    return eliminated(first_table(number, kinds), number)


def blind_multiples(number, table, held):
    """Multiples of the kinds of which the sum is the row of ones; None if there are none."""
    for row, place in zip(table, held):
        if place is None and row[number] != 0:
            return tuple([lowest(-part, row[number]) for part in row[number + 1:]])
    return None


def weights_held(number, table, held, scale):
    """The weights that are other than 0 at most at the places that rows hold, and tell the end."""
    out = [(0, 1)] * number
    for row, place in zip(table, held):
        if place is not None:
            out[place] = lowest(row[number], scale)
    return tuple(out)


def signed_sum(table, signs):
    """The sum of the rows, each one with its sign."""
    out = [0] * len(table[0])
    for row, sign in zip(table, signs):
        out = [total + sign * number for total, number in zip(out, row)]
    return out


def place_beyond_scale(row, number, scale):
    """The first of so many places at which the row is above the scale or below its opposite; None."""
    for place in range(number):
        if abs(row[place]) > scale:
            return place
    return None


def leaving(table, held, signs, number, place, sign):
    """The row whose weight is the first to become 0 as the one at the place grows with the sign.

    Of several that become 0 at once it is the one with the first place: so no table comes twice (Bland 1977).
    """
    found = None
    for at, row in enumerate(table):
        loss = row[place] * sign * signs[at]
        if loss > 0:
            size = row[number] * signs[at]
            if found is None or (size * found[1], held[at]) < (found[0] * loss, held[found[2]]):
                found = (size, loss, at)
    return found[2]


def upward(table, scale):
    """The same table over a scale above 0."""
    if scale > 0:
        return table, scale
    return [[-number for number in row] for row in table], -scale


def least_program(number, kinds):
    """The weights of the least size that tell the end, this size, and the multiples of a row that hides it; None.

    Each weight counts with its sign, so any weights that tell the end at places that rows hold can be the first ones.
    The sum of the rows with these signs is a row of the family with 1 or - 1 at the places that are held, and its end
    is their size. It shows that no weights have a lesser one as soon as no number of it is beyond 1.
    """
    table, held, scale = solved(number, kinds)
    if blind_multiples(number, table, held) is not None:
        return None
    table = [row for row, place in zip(table, held) if place is not None]
    held = [place for place in held if place is not None]
    table, scale = upward(table, scale)
    signs = [-1 if row[number] < 0 else 1 for row in table]
    while True:
        hiding = signed_sum(table, signs)
        place = place_beyond_scale(hiding, number, scale)
        if place is None:
            break
        sign = 1 if hiding[place] > 0 else -1
        at = leaving(table, held, signs, number, place, sign)
        table, scale = exchanged(table, at, place, scale)
        table, scale = upward(table, scale)
        held[at], signs[at] = place, sign
    multiples = tuple([lowest(part, scale) for part in hiding[number + 1:]])
    return weights_held(number, table, held, scale), lowest(hiding[number], scale), multiples
