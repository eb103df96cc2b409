"""Signed sums of batches, the names that they give, and batches put in and struck."""

from itertools import combinations

from noneleft.books import Book, checked_entries, checked_index, is_batch
from noneleft.errors import Refused
from noneleft.rows import is_integer, lowered, nought, stairs, unit


def checked_row(kinds, value):
    """Any value as a row of so many kinds."""
    return checked_entries(kinds, value, is_integer)


def table_of_rows(kinds, rows):
    """The table in stairs of the sums of these rows of so many kinds."""
    return stairs(rows, kinds)[0]


def signed_table(book):
    """The table in stairs of the signed sums of the book."""
    return table_of_rows(book.kinds, book.batches)


def signed_numbers(book, row):
    """Some tuple that tells how often each batch is taken to make the row, or None."""
    wanted = checked_row(book.kinds, row)
    many = len(book.batches)
    # Behind each row stands how often each batch is taken for it.
    marked = [batch + unit(many, at) for at, batch in enumerate(book.batches)]
    left = lowered(stairs(marked, book.kinds)[0], wanted + nought(many))
    if any(left[:book.kinds]):
        return None
    return tuple([-number for number in left[book.kinds:]])


def name_of(book, row):
    """The name of the row."""
    wanted = checked_row(book.kinds, row)
    return lowered(signed_table(book), wanted)


def is_nought(book, row):
    """Tell whether the row comes to nought."""
    return not any(name_of(book, row))


def same_names(one, other):
    """Tell whether two books have the same signed sums."""
    if one.kinds != other.kinds:
        raise Refused(0)
    return signed_table(one) == signed_table(other)


def with_batch(book, batch):
    """The book with one batch more."""
    if not is_batch(book.kinds, batch):
        raise Refused(0)
    if batch in book.batches:
        raise Refused(1)
    return Book(book.kinds, book.batches + (batch,))


def without_batch(book, batch):
    """The book without the batch that has this index."""
    at = checked_index(book, batch)
    return Book(book.kinds, book.batches[:at] + book.batches[at + 1:])


def needed(book):
    """The indexes of all batches without which the signed sums are others."""
    table = signed_table(book)
    return tuple([at for at in range(len(book.batches)) if signed_table(without_batch(book, at)) != table])


def generating(book):
    """The first of the tuples of indexes of as few batches as any that have the same signed sums."""
    table = signed_table(book)
    wanted = needed(book)
    many = len(book.batches)
    # What is needed is in each such tuple, which spares most of the tables.
    for size in range(max(len(table), len(wanted)), many):
        for chosen in combinations(range(many), size):
            if _has_all(chosen, wanted) and _table_of_some(book, chosen) == table:
                return chosen
    return tuple(range(many))


def _has_all(chosen, wanted):
    """Tell whether all that is wanted is among the chosen."""
    return all([at in chosen for at in wanted])


def _table_of_some(book, chosen):
    """The table in stairs of the signed sums of the batches with these indexes."""
    return table_of_rows(book.kinds, [book.batches[at] for at in chosen])
