"""Crowds that no batch fits."""

from noneleft.errors import Refused
from noneleft.rows import is_within, lowered
from noneleft.tables import signed_table


def stuck_crowds(book, size):
    """All stuck crowds of just so many members."""
    return tuple([crowd for crowd in _stuck_up_to(book, size) if sum(crowd) == size])


def stuck_counts(book, most):
    """How many stuck crowds there are of each size from 0 on up to the greatest."""
    counts = [0] * (most + 1)
    for crowd in _stuck_up_to(book, most):
        counts[sum(crowd)] += 1
    return tuple(counts)


def _stuck_up_to(book, most):
    """All stuck crowds of at most so many members, ascending."""
    starts = [()]
    for kind in range(book.kinds):
        # Batches with greater kinds fit none of these starts, as there is nobody of those yet.
        ending = [batch for batch in book.batches if batch[kind] > 0 and not any(batch[kind + 1:])]
        longer = []
        for start in starts:
            limit = min([most - sum(start)] + [batch[kind] - 1 for batch in ending if is_within(batch[:kind], start)])
            longer.extend([start + (number,) for number in range(limit + 1)])
        starts = longer
    return starts


def alone(book):
    """For each kind the least number of things of this kind alone that are a batch, or None."""
    least = []
    for kind in range(book.kinds):
        numbers = [batch[kind] for batch in book.batches if sum(batch) == batch[kind]]
        least.append(min(numbers, default=None))
    return tuple(least)


def _all_stuck(book):
    """All stuck crowds, ascending; None if there is no greatest number of members."""
    numbers = alone(book)
    if None in numbers:
        return None
    return _stuck_up_to(book, sum(numbers))


def most_left(book):
    """The greatest number of members of a stuck crowd, or None if there is no greatest."""
    crowds = _all_stuck(book)
    if crowds is None:
        return None
    return max([sum(crowd) for crowd in crowds])


def largest_stuck(book):
    """The first of the stuck crowds with the greatest number of members, or None if there is no greatest."""
    crowds = _all_stuck(book)
    if crowds is None:
        return None
    most = most_left(book)
    return [crowd for crowd in crowds if sum(crowd) == most][0]


def bounded_stuck(book):
    """All stuck crowds, ascending; refused if there is no greatest number of members."""
    crowds = _all_stuck(book)
    if crowds is None:
        raise Refused(0)
    return crowds


def stuck_by_name(book):
    """Each name of a stuck crowd, ascending, with all stuck crowds that have it."""
    crowds = bounded_stuck(book)
    table = signed_table(book)
    named = {}
    for crowd in crowds:
        named.setdefault(lowered(table, crowd), []).append(crowd)
    return tuple([(name, tuple(named[name])) for name in sorted(named)])
