"""Books with kinds left out, made one, put beside each other, or taken apart."""

from noneleft.books import Book
from noneleft.errors import Refused
from noneleft.naming import like_kinds
from noneleft.rows import are_integers, is_number, nought


def _is_kind(book, value):
    """Tell whether any value is a kind of the book."""
    return is_number(value) and value < book.kinds


def without_kinds(book, kinds):
    """The book of the other kinds, and of the batches that have none of those left out."""
    if not isinstance(kinds, tuple):
        raise Refused(0)
    for at, kind in enumerate(kinds):
        if not _is_kind(book, kind) or (at > 0 and kind <= kinds[at - 1]):
            raise Refused(at)
    if len(kinds) == book.kinds:
        raise Refused(book.kinds)
    return _book_of_kinds(book, [kind for kind in range(book.kinds) if kind not in kinds])


def _book_of_kinds(book, kinds):
    """The book of these kinds, numbered anew, and of the batches that have no others."""
    batches = []
    for batch in book.batches:
        own = tuple([batch[kind] for kind in kinds])
        if sum(own) == sum(batch):
            batches.append(own)
    return Book(len(kinds), batches)


def _checked_kinds(book, one, other):
    """Any two values as unlike kinds of the book, the lesser one first."""
    if not _is_kind(book, one):
        raise Refused(0)
    if not _is_kind(book, other) or one == other:
        raise Refused(1)
    return min(one, other), max(one, other)


def made_one(book, one, other):
    """The book in which the greater of both kinds is counted as the lesser one."""
    lesser, greater = _checked_kinds(book, one, other)
    batches = {}
    for batch in book.batches:
        both = batch[:lesser] + (batch[lesser] + batch[greater],) + batch[lesser + 1:greater] + batch[greater + 1:]
        batches[both] = True
    return Book(book.kinds - 1, list(batches))


def is_alike(book, one, other):
    """Tell whether both kinds have one name."""
    lesser, greater = _checked_kinds(book, one, other)
    like = like_kinds(book)
    return like[lesser] == like[greater]


def beside(one, other):
    """The book of the kinds of both, those of the second one behind, with the batches of both."""
    batches = [batch + nought(other.kinds) for batch in one.batches]
    batches.extend([nought(one.kinds) + batch for batch in other.batches])
    return Book(one.kinds + other.kinds, batches)


def parts(book):
    """The lots into which the kinds fall if any two in one batch belong together."""
    lots = [(kind,) for kind in range(book.kinds)]
    for batch in book.batches:
        met = [lot for lot in lots if any([batch[kind] > 0 for kind in lot])]
        joined = tuple(sorted([kind for lot in met for kind in lot]))
        lots = [lot for lot in lots if lot not in met] + [joined]
    return tuple(sorted(lots))


def part(book, kinds):
    """The book of a lot of kinds, numbered anew, and the batches that have them."""
    if not isinstance(kinds, tuple) or not are_integers(kinds, len(kinds)) or kinds not in parts(book):
        raise Refused(0)
    return _book_of_kinds(book, kinds)
