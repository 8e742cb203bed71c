"""Equations, solved by integers."""

from mapflow.fractions import reduced


def in_steps(rows):
    """The equations, each one without the unknown numbers that have a row ahead of its own."""
    table = [list(row) for row in rows]
    last = 1
    for k in range(len(rows)):
        head = table[k]
        for i in range(k + 1, len(rows)):
            share = table[i][k]
            # Each number is a determinant, so it is divided without a rest: fractions would have to be reduced.
            table[i] = [(head[k] * number - share * above) // last for number, above in zip(table[i], head)]
        last = head[k]
    return table


def above_down(rows):
    """The pair of the determinant of equations, and what stands above it in the answers of each unknown number.

    A row has a number for each unknown one, then its right sides; all are integers. The first k rows have, with their
    first k numbers, a determinant above 0, for each k. For each unknown number there is a list of integers, one for
    each right side: divided by the determinant they are the answers.
    """
    many = len(rows)
    table = in_steps(rows)
    # The last number that is left is that of all rows together.
    down = table[-1][many - 1] if table else 1
    above = []
    for k in reversed(range(many)):
        row = table[k]
        sides = [down * side for side in row[many:]]
        for share, answers in zip(row[k + 1:many], above):
            sides = [side - share * answer for side, answer in zip(sides, answers)]
        # What stands above down is a determinant, too: so this is divided without a rest.
        above = [[side // row[k] for side in sides], *above]
    return (down, above)


def solved(rows):
    """The answers of such equations: for each unknown number a list of fractions, one for each right side."""
    down, above = above_down(rows)
    return [[reduced(number, down) for number in answers] for answers in above]
