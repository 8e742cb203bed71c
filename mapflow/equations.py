"""Equations, solved by integers."""

from mapflow.fractions import reduced


def solved(rows):
    """The answers of equations; a row has a number for each unknown one, then its right sides.

    All are integers. The first k rows have, with their first k numbers, a determinant above 0, for each k. An answer
    is a list of fractions, one for each right side.
    """
    table = [list(row) for row in rows]
    last = 1
    for k in range(len(rows)):
        head = table[k]
        pivot = head[k]
        for i, row in enumerate(list(table)):
            if i != k:
                # Each number is a determinant, so it is divided without a rest: fractions would have to be reduced.
                table[i] = [(pivot * number - row[k] * above) // last for number, above in zip(row, head)]
        last = pivot
    return [[reduced(side, last) for side in row[len(table):]] for row in table]
