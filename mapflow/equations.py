"""Equations, solved by integers."""

from mapflow.fractions import reduced


def above_down(rows):
    """The pair of the determinant of equations, and what stands above it in the answers of each unknown one.

    A row has a number for each unknown one, then its right sides; all are integers. The first k rows have, with their
    first k numbers, a determinant above 0, for each k. There is a list of integers for each unknown one, one for each
    right side: divided by the determinant they are the answers.
    """
    table = [list(row) for row in rows]
    last = 1
    for k in range(len(rows)):
        head = table[k]
        pivot = head[k]
        for i, row in enumerate(list(table)):
            if i != k:
                # Each number is a determinant, so it is divided without a rest: fractions would have to be reduced.
                table[i] = [(pivot * number - row[k] * above) // last for number, above in zip(row, head)]
        last = pivot
    return (last, [row[len(table):] for row in table])


def solved(rows):
    """The answers of such equations: for each unknown one a list of fractions, one for each right side."""
    down, above = above_down(rows)
    return [[reduced(number, down) for number in answers] for answers in above]
