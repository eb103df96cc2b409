"""What the document says, tried out plainly: slow, and written apart from the package."""

from functools import lru_cache
from itertools import combinations, combinations_with_replacement, product
from math import gcd


class Alike:
    """Equal to everything, but nothing of it."""

    def __eq__(self, other):
        return True

    __hash__ = None


# Values that are no number, no index, no sequence, no string ..: each test leaves out what fits it.
NO_NUMBERS = (True, False, None, -1, 1.0, 2.5, "1", b"1", (1,), [1], {}, set(), Alike())
NO_INTEGERS = (True, False, None, 1.0, 2.5, "1", b"1", (1,), [1], {}, set(), Alike())
NO_SEQUENCES = (True, False, None, 0, 3, 1.0, "", "12", b"12", {}, {0: 1}, {1, 2}, range(2), iter([1, 2]), Alike())
NOTHING = NO_SEQUENCES + ([], [()], ((),), ((), ()), (None,), ("a",), ((1, 2, 3),), ([1], [2]), (((),),), (Alike(),))


def within(inner, outer):
    return all(mine <= theirs for mine, theirs in zip(inner, outer))


def added(*rows):
    return tuple(sum(numbers) for numbers in zip(*rows))


def without(row, other):
    return tuple(mine - theirs for mine, theirs in zip(row, other))


def taken(number, row):
    return tuple(number * entry for entry in row)


def unit(kinds, kind):
    return tuple(int(at == kind) for at in range(kinds))


def box(crowd):
    """All crowds within the crowd, ascending."""
    return product(*[range(number + 1) for number in crowd])


def crowds_of_size(kinds, size):
    """All crowds of just so many members, ascending."""
    if kinds == 1:
        return [(size,)]
    return [(own,) + rest for own in range(size + 1) for rest in crowds_of_size(kinds - 1, size - own)]


def crowds_up_to(kinds, most):
    """All crowds of at most so many members, the smallest first, those of a size ascending."""
    return [crowd for size in range(most + 1) for crowd in crowds_of_size(kinds, size)]


def total(kinds, batches, run):
    """What the run clears."""
    crowd = (0,) * kinds
    for at in run:
        crowd = added(crowd, batches[at])
    return crowd


def cost_of(crowd, costs):
    return sum(number * cost for number, cost in zip(crowd, costs))


def cleared(book, counts):
    """What the batches clear together if each goes off so often."""
    return added((0,) * book.kinds, *[taken(number, batch) for number, batch in zip(counts, book.batches)])


def is_ending_run(book, crowd, run):
    """Whether this is a run, a tuple, that goes off batch by batch and leaves a stuck crowd."""
    if type(run) is not tuple or not is_plain(run):
        return False
    for at in run:
        if type(at) is not int or not 0 <= at < len(book.batches) or not within(book.batches[at], crowd):
            return False
        crowd = without(crowd, book.batches[at])
    return not any(within(batch, crowd) for batch in book.batches)


class Trial:
    """Tries out all runs of a book."""

    def __init__(self, book):
        self.kinds = book.kinds
        self.batches = book.batches
        self.ends = lru_cache(None)(self.ends)
        self.clears = lru_cache(None)(self.clears)
        self.outcomes = lru_cache(None)(self.outcomes)

    def is_stuck(self, crowd):
        return not any(within(batch, crowd) for batch in self.batches)

    def ends(self, crowd):
        """All remnants of the crowd."""
        if self.is_stuck(crowd):
            return frozenset([crowd])
        found = frozenset()
        for batch in self.batches:
            if within(batch, crowd):
                found |= self.ends(without(crowd, batch))
        return found

    def clears(self, crowd):
        if not any(crowd):
            return True
        return any(within(batch, crowd) and self.clears(without(crowd, batch)) for batch in self.batches)

    def outcomes(self, crowd):
        """Of all runs from the crowd that end the lengths, each with what is left."""
        if self.is_stuck(crowd):
            return frozenset([(0, crowd)])
        return frozenset((1 + length, left) for batch in self.batches if within(batch, crowd)
                         for length, left in self.outcomes(without(crowd, batch)))

    def goes_wrong(self, crowd):
        return self.clears(crowd) and any(any(left) for left in self.ends(crowd))

    def covers(self, batch):
        """All least covers of the batch with this index."""
        wanted = self.batches[batch]
        found = []
        for many in range(1, sum(wanted) + 1):
            for chosen in combinations_with_replacement(range(len(self.batches)), many):
                if self.is_cover(wanted, chosen):
                    shorter = [chosen[:at] + chosen[at + 1:] for at in range(many)]
                    if not any(self.is_cover(wanted, part) for part in shorter):
                        found.append(chosen)
        return tuple(sorted(found))

    def is_cover(self, wanted, chosen):
        return within(wanted, total(self.kinds, self.batches, chosen))


def determinant(rows):
    """The determinant of as many rows as columns, without any fraction."""
    rows = [list(row) for row in rows]
    sign, before = 1, 1
    for at in range(len(rows)):
        chosen = [low for low in range(at, len(rows)) if rows[low][at] != 0]
        if not chosen:
            return 0
        if chosen[0] != at:
            rows[at], rows[chosen[0]] = rows[chosen[0]], rows[at]
            sign = -sign
        for low in range(at + 1, len(rows)):
            for column in range(at + 1, len(rows)):
                product_less = rows[low][column] * rows[at][at] - rows[low][at] * rows[at][column]
                rows[low][column] = product_less // before
        before = rows[at][at]
    return sign * before


def common_minor(rows, size):
    """The greatest common divisor of all determinants of so many rows and columns."""
    divisor = 0
    for chosen in combinations(rows, size):
        for columns in combinations(range(len(rows[0])), size):
            divisor = gcd(divisor, determinant([[row[at] for at in columns] for row in chosen]))
    return divisor


@lru_cache(None)
def minors(rows):
    """The greatest common divisors of the determinants of each size, from 0 on, as long as they are not 0."""
    found = [1]
    while len(found) <= len(rows):
        divisor = common_minor(rows, len(found))
        if divisor == 0:
            break
        found.append(divisor)
    return found


@lru_cache(None)
def is_signed_sum(rows, row):
    """Whether the row is a signed sum of the rows: whether it brings no determinant that they do not divide."""
    most = len(minors(rows)) - 1
    for size, divisor in ((most + 1, 0), (most, minors(rows)[-1])):
        for chosen in combinations(rows, size - 1) if size > 0 else ():
            for columns in combinations(range(len(row)), size):
                found = determinant([[one[at] for at in columns] for one in chosen + (row,)])
                if found != 0 and (divisor == 0 or found % divisor != 0):
                    return False
    return True


def moduli_of(kinds, rows):
    """The moduli of the clocks, then of the balances."""
    found = minors(tuple(rows))
    clocks = [later // former for former, later in zip(found, found[1:]) if later != former]
    return tuple(clocks) + (0,) * (kinds - len(found) + 1)


def is_in_stairs(kinds, table):
    """Whether the value is a table in stairs of so many kinds, all in tuples."""
    if not is_plain(table) or any(len(row) != kinds or not any(row) for row in table):
        return False
    steps = [[number != 0 for number in row].index(True) for row in table]
    if steps != sorted(set(steps)):
        return False
    for at, step in enumerate(steps):
        if table[at][step] <= 0 or any(not 0 <= row[step] < table[at][step] for row in table[:at]):
            return False
    return True


def is_plain(value):
    """Whether the value is an integer, or a tuple of such values: nothing else in it, and no bool."""
    if type(value) is tuple:
        return all(is_plain(entry) for entry in value)
    return type(value) is int


def near_misses(value):
    """Values like this one, a tuple of tuples and integers, each wrong in one place.

    A list in the place of a tuple, something else in the place of a number, one entry more or less.
    """
    if isinstance(value, int):
        found = [float(value), str(value), None, (value,), Alike()]
        return found + [bool(value)] if value in (0, 1) else found
    found = [list(value), None, iter(value), value + (None,), value + ((),), dict(enumerate(value))]
    if value:
        found += [value + value[-1:], value[:-1], value[1:]]
    for at, entry in enumerate(value):
        for wrong in near_misses(entry):
            found.append(value[:at] + (wrong,) + value[at + 1:])
    return found
