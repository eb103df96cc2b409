"""Greatest sums within linear limits, in integers."""

from noneleft.rows import nought, unit


def greatest(rows, limits, gains):
    """Where the sum of the gains is greatest, if no row weighs more than its limit, a number.

    Tells (bottom, numbers, prices): numbers from 0 on, one for each gain, and prices from 0 on, one for
    each row, all to be divided by the bottom. The prices times the rows are at least the gains, and times
    the limits they are the greatest sum. There must be a greatest sum.
    """
    many = len(gains)
    lines = [row + unit(len(rows), at) + (limit,) for at, (row, limit) in enumerate(zip(rows, limits))]
    goal = tuple([-gain for gain in gains]) + nought(len(rows) + 1)
    basis = [many + at for at in range(len(rows))]
    bottom = 1
    column = _entering(goal)
    while column is not None:
        chosen = _leaving(lines, basis, column)
        pivot = lines[chosen]
        lines = [line if at == chosen else _cleared(line, pivot, column, bottom) for at, line in enumerate(lines)]
        goal = _cleared(goal, pivot, column, bottom)
        basis[chosen] = column
        bottom = pivot[column]
        column = _entering(goal)
    worth = {column: line[-1] for column, line in zip(basis, lines)}
    return bottom, tuple([worth.get(at, 0) for at in range(many)]), goal[many:-1]


def _entering(goal):
    """The first column that can still raise the sum, or None."""
    for column, entry in enumerate(goal[:-1]):
        if entry < 0:
            return column
    return None


def _leaving(lines, basis, column):
    """The line that first stops the column from growing; of several the one whose own column comes first.

    To take the first one, here and in `_entering`, keeps the lines from coming round in a circle.
    """
    best = None
    for at, line in enumerate(lines):
        if line[column] > 0:
            if best is None:
                best = at
            ahead = line[-1] * lines[best][column] - lines[best][-1] * line[column]
            if ahead < 0 or (ahead == 0 and basis[at] < basis[best]):
                best = at
    return best


def _cleared(line, pivot, column, bottom):
    """The line with 0 in the column, all over the new bottom: it stays in integers, as these are determinants."""
    factor = line[column]
    return tuple([(own * pivot[column] - factor * theirs) // bottom for own, theirs in zip(line, pivot)])
