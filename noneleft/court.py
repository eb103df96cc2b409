"""Safe books, and papers that show whether a book is safe."""

from noneleft.books import checked_crowd, is_stuck
from noneleft.covers import covers_within, is_tuple_run, least_covers
from noneleft.errors import NotSafe
from noneleft.naming import naming, told
from noneleft.rows import all_within, are_integers, are_numbers, is_integer, is_within, less, nought
from noneleft.runs import Clearing, crowd_of, first_run, is_clearable
from noneleft.tables import is_nought, without_batch


def is_safe(book):
    """Tell whether every run from a clearable crowd that ends leaves nobody."""
    return safe_paper(book) is not None


def require_safe(book):
    """Refuse a book that is not safe."""
    if not is_safe(book):
        raise NotSafe(0)


def safe_paper(book):
    """For each least cover of each batch a run that clears what the batch leaves of it; None if one has none."""
    clearing = Clearing(book)
    paper = []
    for at, batch in enumerate(book.batches):
        for cover in least_covers(book, at):
            run = clearing.run(less(crowd_of(book, cover), batch))
            if run is None:
                return None
            paper.append((at, cover, run))
    return tuple(paper)


def is_safe_paper(book, value):
    """Tell whether any value is a safe paper of the book."""
    if not isinstance(value, tuple):
        return False
    wanted = [(at, cover) for at in range(len(book.batches)) for cover in least_covers(book, at)]
    if len(value) != len(wanted):
        return False
    return all([_is_shown(book, at, cover, entry) for (at, cover), entry in zip(wanted, value)])


def _is_shown(book, at, cover, value):
    """Tell whether any value is a triple of the batch, its cover, and a run that clears what is left of it."""
    if not isinstance(value, tuple) or len(value) != 3:
        return False
    batch, covering, run = value
    if not is_integer(batch) or batch != at or not are_integers(covering, len(cover)) or covering != cover:
        return False
    left = less(crowd_of(book, cover), book.batches[at])
    return is_tuple_run(book, run) and crowd_of(book, run) == left


def goes_wrong(book, crowd):
    """A run that clears the crowd and one that ends and leaves somebody; None if there are not both."""
    present = checked_crowd(book, crowd)
    clearing = Clearing(book)
    if clearing.run(present) is None:
        return None
    # Whatever goes wrong holds a least cover that goes wrong, beside what is clearable: there a
    # first batch goes off after which not all can be cleared, and a least cover of it clears it.
    for _, covered, at, cover in _covered_crowds(book, present):
        left = less(covered, book.batches[at])
        if clearing.run(left) is None:
            before = clearing.run(less(present, covered))
            if before is not None:
                return before + cover, before + (at,) + first_run(book, left)
    return None


def _covered_crowds(book, crowd):
    """What least covers clear together, within the crowd if it is not None: the smallest ones first.

    Each comes with its size ahead, and with the covered batch and the cover behind.
    """
    found = []
    for at in range(len(book.batches)):
        for cover in covers_within(book, at, crowd):
            covered = crowd_of(book, cover)
            found.append((sum(covered), covered, at, cover))
    return sorted(found)


def least_wrong(book):
    """The first of the smallest crowds that go wrong, or None."""
    paper = unsafe_paper(book)
    return None if paper is None else paper[0]


def unsafe_paper(book):
    """The first of the smallest crowds that go wrong, with a run that clears it and one that does not; or None."""
    clearing = Clearing(book)
    for _, covered, at, cover in _covered_crowds(book, None):
        left = less(covered, book.batches[at])
        if clearing.run(left) is None:
            return covered, cover, (at,) + first_run(book, left)
    return None


def is_unsafe_paper(book, value):
    """Tell whether any value is an unsafe paper of the book."""
    if not isinstance(value, tuple) or len(value) != 3:
        return False
    crowd, run, other = value
    if not are_numbers(crowd, book.kinds) or not is_tuple_run(book, run) or not is_tuple_run(book, other):
        return False
    gone = crowd_of(book, other)
    if crowd_of(book, run) != crowd or gone == crowd or not is_within(gone, crowd):
        return False
    return is_stuck(book, less(crowd, gone))


def strange_crowd(book):
    """Some strange crowd, or None."""
    paper = unsafe_paper(book)
    if paper is None:
        return None
    crowd, _, other = paper
    # What is left comes to nought and has no batch, so the least such crowds in it are strange.
    strange = less(crowd, crowd_of(book, other))
    inner = _nought_within(book, strange)
    while inner is not None:
        strange = inner
        inner = _nought_within(book, strange)
    return strange


def is_strange(book, value):
    """Tell whether any value is a strange crowd of the book."""
    if not are_numbers(value, book.kinds) or not any(value):
        return False
    if not is_stuck(book, value) or not is_nought(book, value):
        return False
    return _nought_within(book, value) is None


def _nought_within(book, crowd):
    """Some crowd within the crowd that comes to nought, neither nobody nor all; or None."""
    # Parts of both halves of the kinds are met by what is told of them: far fewer than all crowds within.
    pairs = naming(book)
    half = book.kinds // 2
    first, second = all_within(crowd[:half]), all_within(crowd[half:])
    behind, ahead = nought(book.kinds - half), nought(half)
    told_of = {}
    for part in first:
        told_of.setdefault(told(pairs, part + behind), []).append(part)
    for rest in second:
        # Taken -1 times, so that the sum of both parts comes to nought.
        missing = told(pairs, less(nought(book.kinds), ahead + rest))
        for part in told_of.get(missing, []):
            if any(part + rest) and part + rest != crowd:
                return part + rest
    return None


def summed_batches(book):
    """The indexes of all batches that are clearable in the book of all others."""
    found = []
    for at, batch in enumerate(book.batches):
        if is_clearable(without_batch(book, at), batch):
            found.append(at)
    return tuple(found)
