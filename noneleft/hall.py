"""Halls in which crowds wait and batches go off."""

from noneleft.books import Book, checked_crowd, checked_index, fitting
from noneleft.errors import InvalidBook, Refused
from noneleft.remnants import greedy_counts
from noneleft.rows import is_within, less, nought, plus
from noneleft.runs import is_clearable
from noneleft.tables import is_nought, name_of


class Hall:
    """Crowds that come and wait, and batches of a book that go off; each deed can be undone."""

    def __init__(self, book):
        self.book = book
        self._waiting = nought(book.kinds)
        self._arrived = nought(book.kinds)
        self._gone = []
        # For each deed what was there before: of the list of those who have gone only how long it was.
        self._past = []

    def __len__(self):
        return len(self._past)

    def waiting(self):
        """The crowd that waits."""
        return self._waiting

    def arrived(self):
        """The crowd of all who have come so far."""
        return self._arrived

    def gone(self):
        """The indexes of the batches that have gone off, in order."""
        return tuple(self._gone)

    def come(self, crowd):
        """Let a crowd come."""
        coming = checked_crowd(self.book, crowd)
        self._keep()
        self._waiting = plus(self._waiting, coming)
        self._arrived = plus(self._arrived, coming)

    def go(self, batch):
        """Let the batch with this index go off."""
        leaving = self.book.batches[checked_index(self.book, batch)]
        if not is_within(leaving, self._waiting):
            raise Refused(0)
        self._keep()
        self._waiting = less(self._waiting, leaving)
        self._gone.append(batch)

    def go_all(self):
        """Let batches go off, always the first that fits, till none does; tells their indexes."""
        # A batch that no longer fits never fits again, so each one goes off as often as it fits.
        counts, left = greedy_counts(self.book, self._waiting)
        run = []
        for at, number in enumerate(counts):
            run.extend([at] * number)
        self._keep()
        self._waiting = left
        self._gone.extend(run)
        return tuple(run)

    def change(self, book):
        """Take another book with the same number of kinds from now on."""
        if not isinstance(book, Book) or book.kinds != self.book.kinds:
            raise InvalidBook(0)
        self._keep()
        self.book = book
        self._arrived = self._waiting
        self._gone = []

    def name(self):
        """The name of the crowd that waits."""
        return name_of(self.book, self._waiting)

    def is_stuck(self):
        """Tell whether no batch fits those who wait."""
        return not fitting(self.book, self._waiting)

    def could_clear(self):
        """Tell whether those who have come are clearable."""
        return is_clearable(self.book, self._arrived)

    def is_even(self):
        """Tell whether those who have come come to nought."""
        return is_nought(self.book, self._arrived)

    def lost(self):
        """Tell whether those who have come are clearable, but those who wait are not."""
        return is_clearable(self.book, self._arrived) and not is_clearable(self.book, self._waiting)

    def undo(self):
        """Undo the last deed; tells whether there was one."""
        if not self._past:
            return False
        self.book, self._waiting, self._arrived, self._gone, many = self._past.pop()
        del self._gone[many:]
        return True

    def within(self, work):
        """What the work tells of the hall; all deeds done in it are undone."""
        book, waiting, arrived, gone, past = self.book, self._waiting, self._arrived, self._gone, self._past
        # The work has lists of its own, so that these stay as they are, whatever it does.
        self._gone = list(gone)
        self._past = list(past)
        try:
            return work(self)
        finally:
            self.book, self._waiting, self._arrived = book, waiting, arrived
            self._gone, self._past = gone, past

    def _keep(self):
        """Keep what is there, before a deed."""
        self._past.append((self.book, self._waiting, self._arrived, self._gone, len(self._gone)))
