"""Runs of batches: what they leave, what they clear, and how a run is found."""

from noneleft.books import checked_crowd, is_index, is_stuck
from noneleft.errors import InvalidRun, Refused
from noneleft.rows import is_sequence, is_within, less, lowered, nought, plus, stairs, times_within


def left_by(book, crowd, run):
    """The crowd that the run leaves of the crowd."""
    left = checked_crowd(book, crowd)
    if not is_sequence(run):
        raise InvalidRun(0)
    for at, batch in enumerate(run):
        if not is_index(book, batch) or not is_within(book.batches[batch], left):
            raise InvalidRun(at)
        left = less(left, book.batches[batch])
    return left


def all_ends(book, crowd):
    """All remnants of the crowd."""
    # In which order batches go off does not matter for what is left, so each one takes its turn once.
    crowds = [checked_crowd(book, crowd)]
    for batch in book.batches:
        crowds = _with_batch_gone(crowds, batch)
    return tuple(sorted([left for left in crowds if is_stuck(book, left)]))


def _with_batch_gone(crowds, batch):
    """What the batch can leave of each crowd if it goes off as often as one likes, each crowd once."""
    found = {}
    for crowd in crowds:
        for number in range(times_within(batch, crowd) + 1):
            found[less(crowd, batch, number)] = True
    return list(found)


def first_run(book, crowd):
    """The run that ends and in which always the first batch that fits goes off."""
    # A batch that no longer fits never fits again, so each batch has its turn once.
    left = checked_crowd(book, crowd)
    run = []
    for at, batch in enumerate(book.batches):
        number = times_within(batch, left)
        left = less(left, batch, number)
        run.extend([at] * number)
    return tuple(run)


def is_clearable(book, crowd):
    """Tell whether some run clears the crowd."""
    return clearing_run(book, crowd) is not None


def clearing_run(book, crowd):
    """Some run, ascending or with equal neighbours, that clears the crowd, or None."""
    present = checked_crowd(book, crowd)
    return Clearing(book).run(present)


def run_between(book, crowd, remnant):
    """Some run that ends and leaves just this remnant of the crowd."""
    present = checked_crowd(book, crowd)
    wanted = checked_crowd(book, remnant)
    if not is_within(wanted, present) or not is_stuck(book, wanted):
        raise Refused(0)
    run = Clearing(book).run(less(present, wanted))
    if run is None:
        raise Refused(0)
    return run


def crowd_of(book, run):
    """The crowd that the run clears."""
    if not is_sequence(run):
        raise InvalidRun(0)
    crowd = nought(book.kinds)
    for at, batch in enumerate(run):
        if not is_index(book, batch):
            raise InvalidRun(at)
        crowd = plus(crowd, book.batches[batch])
    return crowd


class Clearing:
    """Looks for runs that clear crowds, for one book, and remembers in which crowds it found none.

    The batches have their turns from the last one to the first one. Beside each batch stand the table
    of the signed sums of it and those before, in which a last column tells how often it is taken, and
    its turn: by how much that can be altered with the sum as it is (0 if it can't be altered).
    """

    def __init__(self, book):
        self.batches = book.batches
        self.steps = []
        self.turns = []
        self.hopeless = {}
        table = ()
        for batch in book.batches:
            rows = [row + (0,) for row in table] + [batch + (1,)]
            steps, rest = stairs(rows, book.kinds)
            self.steps.append(steps)
            self.turns.append(sum([abs(row[-1]) for row in rest]))
            table = tuple([row[:-1] for row in steps])

    def run(self, crowd):
        """Some run, ascending or with equal neighbours, that clears the crowd (a tuple), or None."""
        if not self.batches:
            return None if any(crowd) else ()
        if any(lowered(self.steps[-1], crowd + (0,))[:-1]):
            return None
        return self.search(len(self.batches), crowd)

    def search(self, many, crowd):
        """Some run of the first so many batches that clears this crowd, a signed sum of them, or None."""
        if not any(crowd):
            return ()
        if (many, crowd) in self.hopeless:
            return None
        batch = self.batches[many - 1]
        for number in self.numbers(many, crowd):
            run = self.search(many - 1, less(crowd, batch, number))
            if run is not None:
                return run + (many - 1,) * number
        self.hopeless[many, crowd] = True
        return None

    def numbers(self, many, crowd):
        """How often the last of so many batches can go off such that a signed sum of those before is left."""
        most = times_within(self.batches[many - 1], crowd)
        known = -lowered(self.steps[many - 1], crowd + (0,))[-1]
        turn = self.turns[many - 1]
        if turn == 0:
            return [known] if 0 <= known <= most else []
        return [number for number in range(most, -1, -1) if (number - known) % turn == 0]
