"""The crowds of a size and a name, in order."""

from noneleft.books import checked_crowd
from noneleft.counting import with_kind
from noneleft.errors import Refused
from noneleft.rows import is_number, less, lowered, nought, unit
from noneleft.tables import name_of, signed_table


def crowd_at(book, size, row, index):
    """The crowd with this index among those of the size that are named as the row."""
    name = name_of(book, row)
    order = Order(book, size)
    many = order.many(0, size, name)
    if not is_number(index) or index >= many:
        raise Refused(many)
    return order.crowd_in(size, name, index)


def index_of(book, crowd):
    """The index of the crowd among those of its size and name."""
    present = checked_crowd(book, crowd)
    return Order(book, sum(present)).place(present)


def next_named(book, crowd):
    """The next greater crowd of the same size and name, or None."""
    present = checked_crowd(book, crowd)
    size = sum(present)
    name = name_of(book, present)
    order = Order(book, size)
    later = order.place(present) + 1
    if later == order.many(0, size, name):
        return None
    return order.crowd_in(size, name, later)


class Order:
    """Numbers the crowds of each size, up to the greatest, and each name of a book.

    For each kind, and once more behind the last one, it has counted by size and name the crowds that
    have only this kind and those behind it.
    """

    def __init__(self, book, most):
        self.kinds = book.kinds
        self.table = signed_table(book)
        counts = [{nought(book.kinds): 1}] + [{} for _ in range(most)]
        self.counted = [counts]
        for kind in range(book.kinds - 1, -1, -1):
            counts = with_kind(counts, self.table, unit(book.kinds, kind), None)
            self.counted = [counts] + self.counted

    def many(self, kind, size, name):
        """How many crowds of this size and name have only this kind and those behind it."""
        return self.counted[kind][size].get(name, 0)

    def rest(self, kind, number, name):
        """The name that is left of a name if so many of the kind are taken."""
        return lowered(self.table, less(name, unit(self.kinds, kind), number))

    def crowd_in(self, size, name, index):
        """The crowd of this size and name with this index, of which there must be more."""
        crowd = ()
        for kind in range(self.kinds):
            number = 0
            rest = self.rest(kind, number, name)
            ahead = self.many(kind + 1, size, rest)
            while index >= ahead:
                index -= ahead
                number += 1
                rest = self.rest(kind, number, name)
                ahead = self.many(kind + 1, size - number, rest)
            crowd = crowd + (number,)
            size -= number
            name = rest
        return crowd

    def place(self, crowd):
        """How many crowds of the size and name of the crowd come before it."""
        size = sum(crowd)
        name = lowered(self.table, crowd)
        before = 0
        for kind, number in enumerate(crowd):
            for fewer in range(number):
                before += self.many(kind + 1, size - fewer, self.rest(kind, fewer, name))
            size -= number
            name = self.rest(kind, number, name)
        return before
