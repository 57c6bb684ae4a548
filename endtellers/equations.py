"""Straight equations, solved in whole numbers: a table stands for its numbers over one scale.

What an exchange divides by the last scale has no rest, for all numbers of such tables are determinants made of those
of the first one (Edmonds 1967).
"""

from endtellers.ratios import lowest


def exchanged(table, at, column, scale):
    """The table in which the row that is told alone has a number in the column, the new scale; and this scale."""
    taken = table[at]
    pivot = taken[column]
    out = []
    for place, row in enumerate(table):
        if place == at:
            out.append(taken)
        else:
            factor = row[column]
            out.append([(number * pivot - factor * other) // scale for number, other in zip(row, taken)])
    return out, pivot


def free_row(table, held, column):
    """The first row that holds no column yet and has a number other than 0 in this one; None."""
    for at, row in enumerate(table):
        if held[at] is None and row[column] != 0:
            return at
    return None


def eliminated(table, many):
    """The table in which rows hold as many of the first so many columns as can be, each one alone; and its scale.

    Between both stand the columns that the rows hold. A row that holds none, None, has noughts in all these columns.
    """
    held = [None] * len(table)
    scale = 1
    for column in range(many):
        at = free_row(table, held, column)
        if at is not None:
            table, scale = exchanged(table, at, column, scale)
            held[at] = column
    return table, held, scale


def unknowns(table, held, scale, wishes):
    """What the unknowns of eliminated equations are, those that no row holds as wished; None if they have none.

    Each row tells the sum of its numbers times the unknowns: its last number.
    """
    many = len(wishes)
    out = [(wish, 1) for wish in wishes]
    for row, column in zip(table, held):
        if column is not None:
            free = [number * wish for at, (number, wish) in enumerate(zip(row, wishes)) if at not in held]
            out[column] = lowest(row[many] - sum(free), scale)
        elif row[many] != 0:
            return None
    return out
