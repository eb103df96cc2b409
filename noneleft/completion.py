"""The least safe book with the same signed sums."""

from noneleft.books import Book
from noneleft.court import is_safe
from noneleft.errors import Refused
from noneleft.rows import is_within, lowered
from noneleft.stuck import stuck_crowds
from noneleft.tables import signed_table

MOST_BATCHES = 8
MOST_MEMBERS = 6


def completion(book):
    """The book with all of its strange crowds as batches, too."""
    return Book(book.kinds, book.batches + missing(book))


def missing(book):
    """The batches that the completion has more."""
    return tuple(sorted(_strange_crowds(book)))


def grown(book):
    """The book, and each time the one before with the first of its smallest strange crowds more."""
    books = [book]
    for crowd in _strange_crowds(book):
        books.append(Book(book.kinds, books[-1].batches + (crowd,)))
    return tuple(books)


def _strange_crowds(book):
    """All strange crowds, the smallest first, those of a size ascending."""
    strange = _small_strange(book)
    whole = Book(book.kinds, book.batches + tuple(strange))
    if len(whole.batches) > MOST_BATCHES or any([sum(batch) > MOST_MEMBERS for batch in whole.batches]):
        raise Refused(0)
    # A safe book with all batches and the same signed sums has all strange crowds.
    if not is_safe(whole):
        raise Refused(0)
    return strange


def _small_strange(book):
    """All strange crowds of at most so many members as a batch may have, the smallest first."""
    table = signed_table(book)
    found = []
    for size in range(1, MOST_MEMBERS + 1):
        # What comes to nought within a stuck crowd is stuck, so what is strange within it was found before.
        for crowd in stuck_crowds(book, size):
            if not any(lowered(table, crowd)) and not any([is_within(other, crowd) for other in found]):
                found.append(crowd)
    return found
