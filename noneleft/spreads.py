"""By how much the lengths of runs differ at most, and books in which all runs that end are equally long."""

from noneleft.books import checked_crowd, is_stuck
from noneleft.errors import Refused
from noneleft.linear import greatest
from noneleft.remnants import greedy_counts
from noneleft.rows import are_numbers, is_within, less, nought, plus, weighed
from noneleft.stuck import bounded_stuck, stuck_by_name
from noneleft.tables import signed_numbers
from noneleft.weights import apart, are_counts, crowd_of_counts, is_weights, lowest, steady_weights, unlike_counts


def spread(book):
    """The greatest ratio of the lengths of two runs that clear the same crowd, other than that of nobody."""
    _, counts, other = spread_paper(book)
    return lowest(sum(counts), sum(other))


def spread_paper(book):
    """Some spread paper: weights, and two counts with the same crowd whose ratio of lengths they bound."""
    if not book.batches:
        raise Refused(0)
    many = len(book.batches)
    # Sought are counts, as long as can be, and behind them the other counts, of length 1. That they have
    # the same crowd is said by two rows for each kind: it is neither more nor less in the first crowd.
    sides = [tuple([batch[kind] for batch in book.batches]) for kind in range(book.kinds)]
    rows = [side + less(nought(many), side) for side in sides]
    rows.extend([less(nought(many), side) + side for side in sides])
    rows.append(nought(many) + (1,) * many)
    bottom, numbers, prices = greatest(rows, nought(2 * book.kinds) + (1,), (1,) * many + nought(many))
    weights = less(prices[:book.kinds], prices[book.kinds:2 * book.kinds])
    return (bottom, weights), numbers[:many], numbers[many:]


def is_spread_paper(book, value):
    """Tell whether any value is a spread paper of the book."""
    if not isinstance(value, tuple) or len(value) != 3:
        return False
    weights, counts, other = value
    if not is_weights(book, weights) or not are_counts(book, counts) or not are_counts(book, other):
        return False
    crowd = crowd_of_counts(book, counts)
    if not any(crowd) or crowd_of_counts(book, other) != crowd:
        return False
    bottom, numbers = weights
    heavy = [weighed(batch, numbers) for batch in book.batches]
    return min(heavy) >= bottom and max(heavy) * sum(other) <= bottom * sum(counts)


def unlike_lengths(book):
    """A crowd and the counts of two runs from it that end, of unlike lengths; None if there is none."""
    bounded_stuck(book)
    pair = unlike_counts(book)
    if pair is not None:
        return crowd_of_counts(book, pair[0]), pair[0], pair[1]
    _, numbers = steady_weights(book)
    for _, crowds in stuck_by_name(book):
        for left in crowds:
            if weighed(left, numbers) != weighed(crowds[0], numbers):
                return _counts_apart(book, crowds[0], left)
    return None


def _counts_apart(book, one, other):
    """A crowd, and the counts of a run to each of two stuck crowds with the same name."""
    more, fewer = apart(signed_numbers(book, less(other, one)))
    return plus(one, crowd_of_counts(book, more)), more, fewer


def is_unlike_lengths(book, value):
    """Tell whether any value is a crowd and the counts of two runs from it that end, of unlike lengths."""
    if not isinstance(value, tuple) or len(value) != 3 or not are_numbers(value[0], book.kinds):
        return False
    crowd, counts, other = value
    return _end(book, crowd, counts) and _end(book, crowd, other) and sum(counts) != sum(other)


def _end(book, crowd, value):
    """Tell whether any value is the counts of a run from the crowd that ends."""
    if not are_counts(book, value):
        return False
    gone = crowd_of_counts(book, value)
    return is_within(gone, crowd) and is_stuck(book, less(crowd, gone))


def told_length(book, crowd):
    """How long all runs from the crowd that end are."""
    if unlike_lengths(book) is not None:
        raise Refused(1)
    return sum(greedy_counts(book, checked_crowd(book, crowd))[0])
