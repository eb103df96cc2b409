"""Least covers of batches by batches."""

from noneleft.books import checked_index, is_index
from noneleft.rows import is_within, less, nought, plus
from noneleft.runs import crowd_of


def least_covers(book, batch):
    """All least covers of the batch with this index."""
    return covers_within(book, checked_index(book, batch), None)


def covers_within(book, batch, crowd):
    """All least covers of the batch that fit the crowd together; of any size if that is None."""
    found = []
    _look_on(book, book.batches[batch], crowd, (), nought(book.kinds), found)
    return tuple(found)


def _look_on(book, wanted, crowd, chosen, total, found):
    """Put all least covers that begin with the chosen batches, of this total, to those found."""
    if is_within(wanted, total):
        found.append(chosen)
        return
    for at in range(chosen[-1] if chosen else 0, len(book.batches)):
        more = plus(total, book.batches[at])
        # A batch that is not wanted now is not wanted later, when there are more of them.
        if not _has_idle(book, wanted, chosen + (at,), more) and (crowd is None or is_within(more, crowd)):
            _look_on(book, wanted, crowd, chosen + (at,), more, found)


def _has_idle(book, wanted, chosen, total):
    """Tell whether one of the chosen batches, of this total, can be left out, as others have all it is wanted for."""
    for at in chosen:
        if _is_idle(wanted, total, book.batches[at]):
            return True
    return False


def _is_idle(wanted, total, batch):
    """Tell whether the total without the batch has just as much of what is wanted, up to that."""
    for want, many, own in zip(wanted, total, batch):
        if own > 0 and many - own < want:
            return False
    return True


def is_least_cover(book, batch, value):
    """Tell whether any value is a least cover of the batch with this index."""
    wanted = book.batches[checked_index(book, batch)]
    if not is_ascending_run(book, value):
        return False
    total = crowd_of(book, value)
    if not is_within(wanted, total):
        return False
    return not any([is_within(wanted, less(total, book.batches[at])) for at in value])


def is_tuple_run(book, value):
    """Tell whether any value is a tuple of indexes of batches."""
    return isinstance(value, tuple) and all([is_index(book, entry) for entry in value])


def is_ascending_run(book, value):
    """Tell whether any value is a tuple of indexes of batches, ascending or with equal neighbours."""
    return is_tuple_run(book, value) and list(value) == sorted(value)
