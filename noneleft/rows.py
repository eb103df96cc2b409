"""Rows of integers: what is asked of any value, sums, and tables in stairs."""


def is_integer(value):
    """Tell whether the value is an int, but not a bool."""
    return isinstance(value, int) and not isinstance(value, bool)


def is_number(value):
    """Tell whether the value is an integer from 0 on."""
    return is_integer(value) and value >= 0


def is_sequence(value):
    """Tell whether the value is a list or a tuple."""
    return isinstance(value, (list, tuple))


def are_integers(value, many):
    """Tell whether the value is a tuple of so many integers."""
    return isinstance(value, tuple) and len(value) == many and all([is_integer(entry) for entry in value])


def are_numbers(value, many):
    """Tell whether the value is a tuple of so many numbers."""
    return isinstance(value, tuple) and len(value) == many and all([is_number(entry) for entry in value])


def misfit(value, many, is_right):
    """What keeps any value from being a sequence of so many right entries; None if it is one.

    The index of the first entry that is not right; how many there should be if it is no sequence, or
    only its length is wrong.
    """
    if not is_sequence(value):
        return many
    for at, entry in enumerate(value):
        if not is_right(entry):
            return at
    return None if len(value) == many else many


def nought(many):
    """The row of so many noughts."""
    return (0,) * many


def unit(many, at):
    """The row of so many integers that has a 1 at one place and else noughts."""
    return nought(at) + (1,) + nought(many - at - 1)


def plus(one, other):
    """The sum of two rows."""
    return tuple([mine + theirs for mine, theirs in zip(one, other)])


def less(row, other, number=1):
    """The row less the other one taken so many times."""
    return tuple([mine - number * theirs for mine, theirs in zip(row, other)])


def weighed(row, weights):
    """The sum of the numbers of the row, each times that in its place in the other one."""
    return sum([number * weight for number, weight in zip(row, weights)])


def is_within(inner, outer):
    """Tell whether no number of the first row is greater than that of the second."""
    for mine, theirs in zip(inner, outer):
        if mine > theirs:
            return False
    return True


def times_within(batch, crowd):
    """How often a crowd other than nobody can be taken from another one."""
    return min([theirs // mine for mine, theirs in zip(batch, crowd) if mine > 0])


def all_within(crowd):
    """All crowds within the crowd, ascending: the first one is that of nobody, the last one the crowd itself."""
    crowds = [()]
    for number in crowd:
        crowds = [start + (own,) for start in crowds for own in range(number + 1)]
    return crowds


def crowds_of(kinds, size):
    """All crowds of so many kinds and just so many members, ascending."""
    starts = [()]
    for _ in range(kinds - 1):
        starts = [start + (own,) for start in starts for own in range(size - sum(start) + 1)]
    return [start + (size - sum(start),) for start in starts]


def step_at(row):
    """The place of the first integer that is not 0."""
    at = 0
    while row[at] == 0:
        at += 1
    return at


def stairs(rows, width):
    """The table in stairs of the rows by their first columns, and what is left of other rows.

    The rows may go on behind these columns: what stands there is added along, so it can tell how a
    row of the table was made. The other rows are those that became 0 in all of the first columns.
    """
    steps = []
    rest = list(rows)
    for column in range(width):
        step, rest = _stepped(rest, column)
        if step is not None:
            steps = [less(row, step, row[column] // step[column]) for row in steps] + [step]
    return tuple(steps), tuple(rest)


def _stepped(rows, column):
    """A row whose integer in the column divides all there, or None, and the others without any there."""
    rest = [row for row in rows if row[column] == 0]
    here = [row for row in rows if row[column] != 0]
    if not here:
        return None, rest
    while len(here) > 1:
        step = _smallest(here, column)
        others = [less(row, step, row[column] // step[column]) for row in here if row != step]
        rest = rest + [row for row in others if row[column] == 0]
        here = [step] + [row for row in others if row[column] != 0]
    step = here[0]
    if step[column] < 0:
        step = tuple([-entry for entry in step])
    return step, rest


def _smallest(rows, column):
    """The first row with the integer nearest to 0 in the column."""
    best = rows[0]
    for row in rows:
        if abs(row[column]) < abs(best[column]):
            best = row
    return best


def lowered(steps, row):
    """The row less a sum of the steps, from 0 to one less than each step above it."""
    for step in steps:
        at = step_at(step)
        if row[at] < 0 or row[at] >= step[at]:
            row = less(row, step, row[at] // step[at])
    return row
