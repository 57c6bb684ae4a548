"""Straight equations solved by themselves, for the tests."""

from fractions import Fraction


def solved(rows, rights):
    """One solution of the equations and rows that span what may be added to it; None if there is none."""
    table = [[Fraction(number) for number in [*row, right]] for row, right in zip(rows, rights)]
    many = len(rows[0])
    pivots = []
    for column in range(many):
        at = next((at for at in range(len(pivots), len(table)) if table[at][column] != 0), None)
        if at is None:
            continue
        table[len(pivots)], table[at] = table[at], table[len(pivots)]
        at = len(pivots)
        table[at] = [number / table[at][column] for number in table[at]]
        for other in range(len(table)):
            if other != at:
                factor = table[other][column]
                table[other] = [high - factor * low for high, low in zip(table[other], table[at])]
        pivots.append(column)
    if any(row[many] != 0 for row in table[len(pivots):]):
        return None
    found = [Fraction(0)] * many
    for row, column in zip(table, pivots):
        found[column] = row[many]
    spans = []
    for free in range(many):
        if free not in pivots:
            span = [Fraction(0)] * many
            span[free] = Fraction(1)
            for row, column in zip(table, pivots):
                span[column] = -row[free]
            spans.append(span)
    return found, spans


def determinant(rows):
    """The determinant of a square of numbers; 1 of none."""
    table = [[Fraction(number) for number in row] for row in rows]
    out = Fraction(1)
    for column in range(len(table)):
        at = next((at for at in range(column, len(table)) if table[at][column] != 0), None)
        if at is None:
            return Fraction(0)
        if at != column:
            table[column], table[at] = table[at], table[column]
            out = -out
        out *= table[column][column]
        for other in range(column + 1, len(table)):
            factor = table[other][column] / table[column][column]
            table[other] = [high - factor * low for high, low in zip(table[other], table[column])]
    return out


def rank(rows):
    """How many of the rows no sums of others make."""
    return len(rows[0]) - len(solved(rows, [0] * len(rows))[1])
