"""Books of batches, and crowds of their kinds."""

from noneleft.errors import InvalidBook, InvalidCrowd, InvalidRun
from noneleft.rows import are_numbers, is_integer, is_number, is_sequence, is_within, misfit


class Book:
    """The batches that can go off together, of things of so many kinds."""

    def __init__(self, kinds, batches):
        if not is_integer(kinds) or kinds < 1:
            raise InvalidBook(0)
        if not is_sequence(batches):
            raise InvalidBook(1)
        found = set()
        for at, batch in enumerate(batches):
            if not is_batch(kinds, batch) or tuple(batch) in found:
                raise InvalidBook(1 + at)
            found.add(tuple(batch))
        self.kinds = kinds
        self.batches = tuple(sorted(found))

    def __eq__(self, other):
        return isinstance(other, Book) and self.kinds == other.kinds and self.batches == other.batches


def is_batch(kinds, value):
    """Tell whether any value is a crowd of so many kinds that is not all 0."""
    return are_numbers(value, kinds) and any(value)


def is_index(book, value):
    """Tell whether any value is an index of a batch of the book."""
    return is_number(value) and value < len(book.batches)


def checked_index(book, value):
    """Any value as the index of a batch of the book."""
    if not is_index(book, value):
        raise InvalidRun(0)
    return value


def checked_entries(kinds, value, is_right):
    """Any value, a sequence of a right entry for each kind, as a tuple."""
    at = misfit(value, kinds, is_right)
    if at is not None:
        raise InvalidCrowd(at)
    return tuple(value)


def checked_crowd(book, value):
    """Any value as a crowd of the kinds of the book."""
    return checked_entries(book.kinds, value, is_number)


def fits(book, batch, crowd):
    """Tell whether the batch with this index fits the crowd."""
    chosen = book.batches[checked_index(book, batch)]
    return is_within(chosen, checked_crowd(book, crowd))


def fitting(book, crowd):
    """The indexes of all batches that fit the crowd."""
    present = checked_crowd(book, crowd)
    return tuple([at for at, batch in enumerate(book.batches) if is_within(batch, present)])


def is_stuck(book, crowd):
    """Tell whether no batch of the book fits the crowd (a tuple)."""
    for batch in book.batches:
        if is_within(batch, crowd):
            return False
    return True


def least_batches(book):
    """The book of those batches that hold no other batch."""
    kept = []
    for batch in book.batches:
        held = [other for other in book.batches if is_within(other, batch)]
        if len(held) == 1:
            kept.append(batch)
    return Book(book.kinds, kept)
