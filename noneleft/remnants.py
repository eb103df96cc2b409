"""What is told ahead of remnants, and crowds of any size."""

from heapq import heappop, heappush
from math import gcd, lcm

from noneleft.books import checked_crowd, is_stuck
from noneleft.court import require_safe
from noneleft.errors import Refused
from noneleft.rows import is_within, less, lowered, nought, plus, times_within
from noneleft.stuck import alone, bounded_stuck
from noneleft.tables import signed_table


def told_remnants(book, crowd):
    """All stuck crowds within the crowd that have its name."""
    crowds = bounded_stuck(book)
    present = checked_crowd(book, crowd)
    table = signed_table(book)
    name = lowered(table, present)
    return tuple([left for left in crowds if is_within(left, present) and lowered(table, left) == name])


def tells_ends(book, crowd):
    """Tell whether the told remnants are just the remnants of the crowd."""
    left_ones = told_remnants(book, crowd)
    present = checked_crowd(book, crowd)
    numbers = alone(book)
    reached = Mixing(book, numbers, present).reached()
    # No remnant has as many of a kind as can go off alone, so it hangs on what the other batches take.
    return all([_remainder(less(present, left), numbers) in reached for left in left_ones])


def _remainder(row, numbers):
    """What is left of each number of the row when it is divided by its divisor."""
    return tuple([own % number for own, number in zip(row, numbers)])


class Mixing:
    """Looks for what all batches but the least ones of one kind alone can take of a crowd.

    What they take is told by its remainders: whatever else goes off then are batches of one kind alone.
    Taking less is never worse, so for equal remainders only that is kept which holds nothing lesser.
    """

    def __init__(self, book, numbers, crowd):
        singles = [nought(at) + (number,) + nought(book.kinds - at - 1) for at, number in enumerate(numbers)]
        self.batches = [batch for batch in book.batches if batch not in singles]
        self.divisors = numbers
        self.crowd = crowd
        # A batch taken so often that its remainders are all 0 need not be taken: so some kinds never run short.
        most = nought(book.kinds)
        for batch in self.batches:
            most = less(most, batch, 1 - self.turn(batch))
        self.scarce = [many < limit for many, limit in zip(crowd, most)]

    def turn(self, batch):
        """How often the batch must be taken at least until its remainders are all 0."""
        many = 1
        for own, number in zip(batch, self.divisors):
            many = lcm(many, number // gcd(own, number))
        return many

    def spent(self, row):
        """The row with 0 for each kind that never runs short."""
        return tuple([own if is_scarce else 0 for own, is_scarce in zip(row, self.scarce)])

    def reached(self):
        """The remainders of all that can be taken, each with the least takings of what may run short."""
        start = nought(len(self.divisors))
        found = {}
        # The smallest takings come first, so that no later one is within an earlier one.
        queue = [(0, start, start)]
        while queue:
            _, taken, remainder = heappop(queue)
            kept = found.setdefault(remainder, [])
            if any([is_within(other, taken) for other in kept]):
                continue
            kept.append(taken)
            for batch in self.batches:
                more = plus(taken, self.spent(batch))
                if is_within(more, self.crowd):
                    heappush(queue, (sum(more), more, _remainder(plus(remainder, batch), self.divisors)))
        return found


def greedy_counts(book, crowd):
    """How often each batch goes off if each, ascending, goes off as often as it fits; and what is left."""
    left = checked_crowd(book, crowd)
    counts = []
    for batch in book.batches:
        number = times_within(batch, left)
        left = less(left, batch, number)
        counts.append(number)
    return tuple(counts), left


def counts_between(book, crowd, remnant):
    """Some counts of the batches that together with the remnant are the crowd, in a safe book."""
    require_safe(book)
    present = checked_crowd(book, crowd)
    wanted = checked_crowd(book, remnant)
    if not is_within(wanted, present) or not is_stuck(book, wanted):
        raise Refused(0)
    # In a safe book the others are clearable only if whatever goes off first clears them.
    counts, rest = greedy_counts(book, less(present, wanted))
    if any(rest):
        raise Refused(0)
    return counts
