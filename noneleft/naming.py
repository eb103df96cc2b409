"""Clocks and balances that tell the names of a book."""

from math import gcd, lcm

from noneleft.errors import InvalidGroup, Refused
from noneleft.rows import are_integers, is_integer, lowered, nought, plus, stairs, unit, weighed
from noneleft.tables import checked_row, name_of, signed_table, table_of_rows


def hours_of(kinds, value, row):
    """What the naming tells of the row."""
    pairs = checked_naming(kinds, value)
    return told(pairs, checked_row(kinds, row))


def told(pairs, row):
    """What a naming tells of a row, both checked."""
    return tuple([_hour(modulus, hours, row) for modulus, hours in pairs])


def _hour(modulus, hours, row):
    """What one clock or balance tells of the row."""
    total = weighed(row, hours)
    return total % modulus if modulus else total


def checked_naming(kinds, value):
    """Any value as a naming for so many kinds."""
    at = _misfit(kinds, value)
    if at is not None:
        raise InvalidGroup(at)
    return value


def is_some_naming(kinds, value):
    """Tell whether any value is a naming for so many kinds."""
    return _misfit(kinds, value) is None


def _misfit(kinds, value):
    """The index of the first entry that is no clock and no balance; 0 for no tuple; None if all are."""
    if not isinstance(value, tuple):
        return 0
    for at, entry in enumerate(value):
        if not _is_pair(kinds, entry):
            return at
    return None


def _is_pair(kinds, value):
    """Tell whether any value is a clock or a balance for so many kinds."""
    if not isinstance(value, tuple) or len(value) != 2:
        return False
    modulus, hours = value
    return is_integer(modulus) and (modulus == 0 or modulus > 1) and are_integers(hours, kinds)


def moduli(book):
    """The moduli of the clocks and balances of the book."""
    return tuple([modulus for modulus, _ in naming(book)])


def naming(book):
    """Some naming with the moduli of the book that tells 0 for just the rows that come to nought."""
    table = signed_table(book)
    # One side for each kind: its numbers in the table, and behind them a 1 for the kind itself.
    sides = [tuple([row[kind] for row in table]) + unit(book.kinds, kind) for kind in range(book.kinds)]
    steps, rest = stairs(sides, len(table))
    steps = _straightened(steps, len(table))
    clocks = _chained([(step[at], step[len(table):]) for at, step in enumerate(steps)])
    balances = table_of_rows(book.kinds, [row[len(table):] for row in rest])
    pairs = [(modulus, tuple([hour % modulus for hour in hours])) for modulus, hours in clocks if modulus > 1]
    return tuple(pairs + [(0, hours) for hours in balances])


def _straightened(steps, width):
    """The steps after sums of columns and of rows by which each one has only its own column."""
    # Each pass either makes one more place straight or leaves a lesser divisor in it, so this ends.
    while not _is_straight(steps, width):
        columns = [tuple([step[at] for step in steps]) for at in range(width)]
        columns = stairs(columns, width)[0]
        mixed = [tuple([column[at] for column in columns]) + step[width:] for at, step in enumerate(steps)]
        steps = stairs(mixed, width)[0]
    return steps


def _is_straight(steps, width):
    """Tell whether each step has only the column of its own place, there being one for each column."""
    for at, step in enumerate(steps):
        if any(step[at + 1:width]):
            return False
    return True


def _chained(clocks):
    """Clocks, perhaps of modulus 1, that tell the same, each modulus of which divides the next one."""
    chained = list(clocks)
    for at in range(len(chained)):
        for later in range(at + 1, len(chained)):
            chained[at], chained[later] = _divided(chained[at], chained[later])
    return chained


def _divided(one, other):
    """Two clocks that tell the same as these two, the first modulus a divisor of the second one."""
    (modulus, hours), (second, others) = one, other
    # common is mine * modulus + theirs * second, so the change below can be undone.
    common, mine, theirs = stairs([(modulus, 1, 0), (second, 0, 1)], 1)[0][0]
    forth, back = mine * (modulus // common), theirs * (second // common)
    mixed = tuple([forth * there - back * here for here, there in zip(hours, others)])
    return (common, plus(hours, others)), (modulus * second // common, mixed)


def is_naming(book, value):
    """Tell whether any value is a naming with the moduli of the book for its names."""
    if not is_some_naming(book.kinds, value):
        return False
    if tuple([modulus for modulus, _ in value]) != moduli(book):
        return False
    if any([any(told(value, batch)) for batch in book.batches]):
        return False
    # As the moduli are right, a naming that tells all rows of hours tells unlike names apart.
    steps = _steps_of_hours(book.kinds, value)
    return len(steps) == len(value) and all([step[at] == 1 for at, step in enumerate(steps)])


def _steps_of_hours(kinds, pairs):
    """The table in stairs of what the naming tells, with a row behind each row for which it tells this."""
    many = len(pairs)
    rows = []
    for kind in range(kinds):
        rows.append(tuple([hours[kind] for _, hours in pairs]) + unit(kinds, kind))
    for at, (modulus, _) in enumerate(pairs):
        rows.append(tuple([modulus * entry for entry in unit(many, at)]) + nought(kinds))
    return stairs(rows, many)[0]


def name_count(book):
    """How many names there are, or None if there is a balance."""
    many = 1
    for modulus in moduli(book):
        many = many * modulus
    return many if many > 0 else None


def all_names(book):
    """All names, ascending."""
    many = name_count(book)
    if many is None:
        raise Refused(0)
    if many > 1000:
        raise Refused(many)
    names = [()]
    for kind, row in enumerate(signed_table(book)):
        names = [name + (number,) for name in names for number in range(row[kind])]
    return tuple(names)


def order_of(book, row):
    """How often the row must be taken at least to come to nought, or None."""
    wanted = checked_row(book.kinds, row)
    many = 1
    for modulus, hours in naming(book):
        hour = _hour(modulus, hours, wanted)
        if modulus == 0 and hour != 0:
            return None
        if modulus > 0:
            many = lcm(many, modulus // gcd(modulus, hour))
    return many


def like_kinds(book):
    """For each kind the least kind with the same name."""
    table = signed_table(book)
    names = [lowered(table, unit(book.kinds, kind)) for kind in range(book.kinds)]
    return tuple([names.index(name) for name in names])


def table_of(kinds, value):
    """The table in stairs of all rows for which the naming tells 0 for each pair."""
    rows = [unit(kinds, kind) for kind in range(kinds)]
    for modulus, hours in checked_naming(kinds, value):
        marked = [(_hour(0, hours, row),) + row for row in rows]
        # What is left beside the step are just the sums for which the clock or balance tells 0.
        rest = stairs(marked + [(modulus,) + nought(kinds)], 1)[1]
        rows = table_of_rows(kinds, [row[1:] for row in rest])
    return table_of_rows(kinds, rows)


def translation(book, one, other):
    """For each pair of the first naming a row that it tells 1, and what the second naming tells of it."""
    if not is_naming(book, one):
        raise InvalidGroup(0)
    if not is_naming(book, other):
        raise InvalidGroup(1)
    pairs = []
    for step in _steps_of_hours(book.kinds, one):
        row = name_of(book, step[len(one):])
        pairs.append((row, told(other, row)))
    return tuple(pairs)
