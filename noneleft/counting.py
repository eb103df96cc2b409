"""How many crowds have a name."""

from math import comb, gcd, lcm

from noneleft.errors import Refused
from noneleft.naming import order_of
from noneleft.rows import lowered, nought, plus, unit
from noneleft.tables import name_of, signed_table

# Up to this size crowds are counted one size after the other; and no period above it is taken.
NEAR = 60


def period(book):
    """The least common multiple of the orders of all kinds, or None if some kind has none."""
    common = 1
    for kind in range(book.kinds):
        order = order_of(book, unit(book.kinds, kind))
        if order is None:
            return None
        common = lcm(common, order)
    return common


def _short_period(book):
    """The period of the book; refused if there is none or if it is too great."""
    common = period(book)
    if common is None:
        raise Refused(0)
    if common > NEAR:
        raise Refused(common)
    return common


def count_named(book, size, row):
    """How many crowds of this size have the name of the row."""
    name = name_of(book, row)
    if size <= NEAR:
        return _counts_by_name(book, size, None)[size].get(name, 0)
    turn = _short_period(book)
    numbers = starts(book, name)
    # To each start whole periods of things are put until the size is reached, shared out among the kinds.
    total = 0
    for start in range(size % turn, min(size + 1, len(numbers)), turn):
        total += numbers[start] * comb((size - start) // turn + book.kinds - 1, book.kinds - 1)
    return total


def count_noughts(book, size):
    """How many crowds of this size come to nought."""
    return count_named(book, size, nought(book.kinds))


def count_up_to(book, size, row):
    """How many crowds of at most this size have the name of the row."""
    name = name_of(book, row)
    if size <= NEAR:
        return sum([counts.get(name, 0) for counts in _counts_by_name(book, size, None)])
    turn = _short_period(book)
    numbers = starts(book, name)
    # Here some of the whole periods may be put to nobody, as if to one kind more.
    total = 0
    for start in range(min(size + 1, len(numbers))):
        total += numbers[start] * comb((size - start) // turn + book.kinds, book.kinds)
    return total


def starts(book, row):
    """For each size how many crowds with less than a period of each kind have the name of the row."""
    name = name_of(book, row)
    turn = _short_period(book)
    counts = _counts_by_name(book, book.kinds * (turn - 1), turn)
    return tuple([named.get(name, 0) for named in counts])


def _counts_by_name(book, most, turn):
    """For each size up to the greatest a dict of how many crowds have each name.

    If turn is not None, it is the period, and only crowds with less than so many of each kind are counted.
    """
    table = signed_table(book)
    counts = [{nought(book.kinds): 1}] + [{} for _ in range(most)]
    for kind in range(book.kinds):
        counts = with_kind(counts, table, unit(book.kinds, kind), turn)
    return counts


def with_kind(counts, table, one, turn):
    """The counts by name if things of one more kind may be put to the crowds."""
    after = {}
    found = []
    for size, before in enumerate(counts):
        now = {name: before[name] for name in before}
        if size > 0:
            for name, number in found[size - 1].items():
                if name not in after:
                    after[name] = lowered(table, plus(name, one))
                now[after[name]] = now.get(after[name], 0) + number
        if turn is not None and size >= turn:
            # A whole period of the kind comes to nought: what it is put to has the same name.
            for name, number in counts[size - turn].items():
                now[name] = now[name] - number
        found.append(now)
    return found


def sizes(book):
    """The step of the sizes of crowds that come to nought, and from which multiple on all multiples are such sizes."""
    step, turn, first = _first_sizes(book)
    # A period ahead of the greatest of the first sizes stands the last multiple that is no size.
    return step, max(first) - turn + step


def missing_sizes(book):
    """The multiples of the step that are no sizes of crowds that come to nought."""
    step, turn, first = _first_sizes(book)
    return tuple(sorted([size for start in first for size in range(start % turn, start, turn)]))


def _first_sizes(book):
    """The step, the period, and the least size in each of the classes that sizes of crowds fall into by the period."""
    turn = _short_period(book)
    step = 0
    for row in signed_table(book):
        step = gcd(step, sum(row))
    first = {}
    for size, number in enumerate(starts(book, nought(book.kinds))):
        if number > 0:
            first.setdefault(size % turn, size)
    return step, turn, list(first.values())
