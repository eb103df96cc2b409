"""What all safe books that agree with sights have in common."""

from noneleft.books import checked_crowd
from noneleft.errors import Refused
from noneleft.naming import name_count
from noneleft.prices import cheapest_crowds
from noneleft.rows import all_within, crowds_of, less, lowered
from noneleft.sights import seen_book, stayed_crowds
from noneleft.tables import signed_table, table_of_rows


def standing(sights, crowd):
    """Tell whether the crowd is clearable by each safe book that agrees, by none, or by some: sure, never, open."""
    guess = Guess(sights)
    return guess.standing(guess.name(checked_crowd(guess.book, crowd)))


def may_be_left(sights, crowd):
    """All crowds that some safe book that agrees can leave of the crowd."""
    guess = Guess(sights)
    present = checked_crowd(guess.book, crowd)
    return tuple([left for left in all_within(present) if guess.can_leave(present, left)])


def sure_batches(sights, size):
    """All crowds up to the size that are batches of each safe book that agrees and has no summed batches."""
    guess = Guess(sights)
    found = []
    for members in range(1, size + 1):
        for crowd in crowds_of(sights.kinds, members):
            if guess.is_sure(guess.name(crowd)) and guess.is_single(crowd):
                found.append(crowd)
    return tuple(sorted(found))


def is_settled(sights):
    """Tell whether no crowd of any size is open."""
    return open_crowd(sights) is None


def open_crowd(sights):
    """The first of the smallest open crowds, or None."""
    guess = Guess(sights)
    book = guess.book
    if name_count(book) is not None:
        # The first of the smallest crowds with an open name is the first of the smallest ones with its name.
        cheapest = cheapest_crowds(book, (1,) * book.kinds)
        return guess.first_open([crowd for _, crowd in sorted([(sum(crowd), crowd) for crowd in cheapest])])
    # There is a balance: one more of its heaviest kind than were ever left together are open, so this ends.
    size = 1
    found = guess.first_open(crowds_of(book.kinds, size))
    while found is None:
        size += 1
        found = guess.first_open(crowds_of(book.kinds, size))
    return found


class Guess:
    """Tells crowds apart by their names in the book that was seen, for sights with which some safe book agrees.

    A safe book in which one more name comes to nought agrees, too, exactly if nobody who was left comes
    to nought by that. Whether this is so is remembered for each name.
    """

    def __init__(self, sights):
        self.book = seen_book(sights)
        self.table = signed_table(self.book)
        self.stayed = {}
        for crowd in stayed_crowds(sights):
            self.stayed[self.name(crowd)] = True
        for name in self.stayed:
            if self.is_sure(name):
                raise Refused(0)
        self.known = {}

    def name(self, crowd):
        """The name of the crowd."""
        return lowered(self.table, crowd)

    def is_sure(self, name):
        """Tell whether crowds of this name are clearable by each safe book that agrees."""
        return not any(name)

    def is_never(self, name):
        """Tell whether crowds of this name are clearable by no safe book that agrees."""
        if name not in self.known:
            self.known[name] = name in self.stayed or self.brings_nought(name)
        return self.known[name]

    def brings_nought(self, name):
        """Tell whether somebody who was left comes to nought if this name does."""
        table = self.table_with(name)
        for other in self.stayed:
            if not any(lowered(table, other)):
                return True
        return False

    def table_with(self, name):
        """The table of the signed sums if this name comes to nought, too."""
        return table_of_rows(self.book.kinds, self.table + (name,))

    def standing(self, name):
        """The word for crowds of this name."""
        if self.is_sure(name):
            return "sure"
        return "never" if self.is_never(name) else "open"

    def can_leave(self, crowd, left):
        """Tell whether some safe book that agrees can leave this of the crowd."""
        name = self.name(less(crowd, left))
        if self.is_never(name):
            return False
        table = self.table_with(name)
        # Only the first of all crowds within, that of nobody, may come to nought.
        for other in all_within(left)[1:]:
            if not any(lowered(table, other)):
                return False
        return True

    def is_single(self, crowd):
        """Tell whether nobody within the crowd, other than nobody and all, is ever clearable."""
        for other in all_within(crowd)[1:-1]:
            if not self.is_never(self.name(other)):
                return False
        return True

    def first_open(self, crowds):
        """The first of the crowds that is open, or None."""
        for crowd in crowds:
            if self.standing(self.name(crowd)) == "open":
                return crowd
        return None
