"""What is seen of an unknown book: which crowds came, and which ones were left."""

from noneleft.books import Book, is_stuck
from noneleft.errors import InvalidBook, InvalidQuestion, Refused
from noneleft.naming import is_some_naming, naming, told
from noneleft.rows import all_within, are_numbers, is_integer, is_sequence, is_within, less, plus
from noneleft.runs import is_clearable
from noneleft.tables import signed_numbers
from noneleft.weights import apart, are_counts, crowd_of_counts


class Sights:
    """Crowds of so many kinds that came, each with the crowd that was left of it."""

    def __init__(self, kinds, pairs):
        if not is_integer(kinds) or kinds < 1:
            raise InvalidBook(0)
        if not is_sequence(pairs):
            raise InvalidQuestion(0)
        found = {}
        for at, pair in enumerate(pairs):
            if not is_sight(kinds, pair):
                raise InvalidQuestion(at)
            came, left = pair
            found[tuple(came), tuple(left)] = True
        self.kinds = kinds
        self.pairs = tuple(sorted(found))

    def __eq__(self, other):
        return isinstance(other, Sights) and self.kinds == other.kinds and self.pairs == other.pairs


def is_sight(kinds, value):
    """Tell whether any value is a crowd of so many kinds that came and one within it that was left."""
    if not isinstance(value, tuple) or len(value) != 2:
        return False
    came, left = value
    return are_numbers(came, kinds) and are_numbers(left, kinds) and is_within(left, came)


def with_sight(sights, value):
    """The sights with one more."""
    if not is_sight(sights.kinds, value):
        raise InvalidQuestion(0)
    return Sights(sights.kinds, sights.pairs + (value,))


def agrees(book, sights):
    """Tell whether each crowd that was left is a remnant, by this book, of the one that came."""
    if book.kinds != sights.kinds:
        raise Refused(0)
    for came, left in sights.pairs:
        if not is_stuck(book, left) or not is_clearable(book, less(came, left)):
            return False
    return True


def seen_book(sights):
    """The book whose batches are what went off of each crowd that came, if anybody did."""
    gone = {}
    for came, left in sights.pairs:
        if came != left:
            gone[less(came, left)] = True
    return Book(sights.kinds, list(gone))


def stayed_crowds(sights):
    """All crowds, other than that of nobody, within some crowd that was left, ascending."""
    found = {}
    for _, left in sights.pairs:
        for crowd in all_within(left):
            if any(crowd):
                found[crowd] = True
    return sorted(found)


def _nought_stayed(sights, pairs):
    """The first of the crowds within those that were left for which the naming tells 0 for each pair, or None."""
    for crowd in stayed_crowds(sights):
        if not any(told(pairs, crowd)):
            return crowd
    return None


def fitting_naming(sights):
    """Some naming that fits the sights, or None."""
    # It tells 0 for no more crowds than any other one that tells 0 for the batches that were seen.
    pairs = naming(seen_book(sights))
    return pairs if _nought_stayed(sights, pairs) is None else None


def is_fitting_naming(sights, value):
    """Tell whether any value is a naming that fits the sights."""
    if not is_some_naming(sights.kinds, value):
        return False
    if any([any(told(value, batch)) for batch in seen_book(sights).batches]):
        return False
    return _nought_stayed(sights, value) is None


def wrong_paper(sights):
    """Some counts of seen batches, other ones, and who of those who were left is left by these, or None."""
    book = seen_book(sights)
    rest = _nought_stayed(sights, naming(book))
    if rest is None:
        return None
    gone, stayed = apart(signed_numbers(book, rest))
    return gone, stayed, rest


def is_wrong_paper(sights, value):
    """Tell whether any value is a wrong paper of the sights."""
    if not isinstance(value, tuple) or len(value) != 3:
        return False
    gone, stayed, rest = value
    book = seen_book(sights)
    if not are_counts(book, gone) or not are_counts(book, stayed) or not are_numbers(rest, sights.kinds):
        return False
    if not any(rest) or not any([is_within(rest, left) for _, left in sights.pairs]):
        return False
    return crowd_of_counts(book, gone) == plus(crowd_of_counts(book, stayed), rest)
