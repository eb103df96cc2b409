"""Books as texts, and back."""

from noneleft.books import Book
from noneleft.errors import InvalidText

FIGURES = "0123456789"
MOST_FIGURES = 2


def book_text(book):
    """The book as a text: its number of kinds, and a line for each batch."""
    lines = [f"kinds {book.kinds}"]
    for batch in book.batches:
        lines.append(" ".join([str(number) for number in batch]))
    return "\n".join(lines)


def read_book(text):
    """The book with exactly this text."""
    if not isinstance(text, str):
        raise InvalidText(0)
    lines = text.split("\n")
    kinds = _kinds_told(lines[0])
    if kinds is None:
        raise InvalidText(0)
    batches = []
    for at, line in enumerate(lines[1:]):
        batch = _batch_told(kinds, line)
        if batch is None or (batches and batch <= batches[-1]):
            raise InvalidText(1 + at)
        batches.append(batch)
    return Book(kinds, batches)


def number_told(word, most):
    """The number that the word tells in one figure or more, up to so many, or None."""
    if not 1 <= len(word) <= most or not all([sign in FIGURES for sign in word]):
        return None
    if str(int(word)) != word:
        return None
    return int(word)


def _kinds_told(line):
    """The number of kinds that a first line tells, or None."""
    words = line.split(" ")
    if len(words) != 2 or words[0] != "kinds":
        return None
    kinds = number_told(words[1], MOST_FIGURES)
    if kinds == 0:
        return None
    return kinds


def _batch_told(kinds, line):
    """The batch that a line tells, or None."""
    numbers = [number_told(word, MOST_FIGURES) for word in line.split(" ")]
    if len(numbers) != kinds or None in numbers or not any(numbers):
        return None
    return tuple(numbers)
