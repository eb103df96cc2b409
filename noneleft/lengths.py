"""How many batches go off in runs from a crowd."""

from noneleft.books import checked_crowd, is_stuck
from noneleft.rows import is_number, less, nought, plus, times_within


def clearing_lengths(book, crowd):
    """The lengths of all runs that clear the crowd."""
    last = _stages(book, checked_crowd(book, crowd))[-1]
    return _lengths_in(last.get(nought(book.kinds), 0))


def ending_lengths(book, crowd):
    """The lengths of all runs from the crowd that end."""
    last = _stages(book, checked_crowd(book, crowd))[-1]
    found = 0
    for left in last:
        if is_stuck(book, left):
            found = found | last[left]
    return _lengths_in(found)


def clearing_of_length(book, crowd, length):
    """Some run of this length that clears the crowd, or None."""
    stages = _stages(book, checked_crowd(book, crowd))
    nobody = nought(book.kinds)
    if not is_number(length) or length not in _lengths_in(stages[-1].get(nobody, 0)):
        return None
    return _run_back(book, stages, nobody, length)


def ending_of_length(book, crowd, length):
    """Some run of this length from the crowd that ends, or None."""
    stages = _stages(book, checked_crowd(book, crowd))
    if not is_number(length):
        return None
    for left in stages[-1]:
        if is_stuck(book, left) and length in _lengths_in(stages[-1][left]):
            return _run_back(book, stages, left, length)
    return None


def _stages(book, crowd):
    """What the first batches can leave of the crowd, for none of them, for the first one, .. for all.

    Each is a dict of the crowds that can be left, with the lengths of the runs that leave them, each
    length n told by the bit 2 ** n of a number. In which order batches go off does not matter for that.
    """
    stages = [{crowd: 1}]
    for batch in book.batches:
        found = {}
        for left, lengths in stages[-1].items():
            for number in range(times_within(batch, left) + 1):
                later = less(left, batch, number)
                found[later] = found.get(later, 0) | lengths << number
        stages.append(found)
    return stages


def _lengths_in(bits):
    """The lengths that these bits tell, ascending."""
    return tuple([length for length in range(bits.bit_length()) if bits >> length & 1])


def _run_back(book, stages, left, length):
    """Some run of this length that leaves just this crowd, found from its end."""
    run = ()
    for at in range(len(book.batches) - 1, -1, -1):
        # The batch goes off once more as long as those before it cannot leave this in what remains of the length.
        while not stages[at].get(left, 0) >> length & 1:
            left = plus(left, book.batches[at])
            length -= 1
            run = (at,) + run
    return run
