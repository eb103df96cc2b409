"""[21], [22], [23]: stuck crowds, how much can be left, and by which names."""

from itertools import product

import unittest

from noneleft.books import Book
from noneleft.court import is_safe
from noneleft.errors import Refused
from noneleft.naming import all_names, moduli, name_count, order_of
from noneleft.stuck import alone, largest_stuck, most_left, stuck_by_name, stuck_counts, stuck_crowds
from noneleft.tables import name_of
from refusals import Refusals
from samples import BALANCES, BOOKS, CLOCKS, EIGHTS, MIXED, NONE, PAIRS, SIX, TWELVE, UNSAFE
from trial import Trial, added, crowds_of_size, is_plain, unit

# Books with a greatest number of members left; the product of all alone is near 3000 for some.
BOUNDED = tuple(book for book in BOOKS if all(
    any(batch[kind] == sum(batch) for batch in book.batches) for kind in range(book.kinds))) + (
        Book(1, [(8,), (3,)]), Book(2, [(8, 0), (5, 0), (0, 7), (2, 2)]), Book(2, [(1, 0), (0, 1)]),
        Book(4, [(8, 0, 0, 0), (0, 8, 0, 0), (0, 0, 8, 0), (0, 0, 0, 5), (1, 1, 1, 1)]),
        Book(6, [(4, 0, 0, 0, 0, 0), (0, 4, 0, 0, 0, 0), (0, 0, 4, 0, 0, 0), (0, 0, 0, 3, 0, 0), (0, 0, 0, 0, 4, 0),
                 (0, 0, 0, 0, 0, 3), (1, 1, 1, 0, 0, 0), (0, 0, 0, 2, 2, 0)]),
        Book(4, [(7, 0, 0, 0), (0, 7, 0, 0), (0, 0, 7, 0), (0, 0, 0, 8)]), TWELVE)
# Books in which some kind has no batch alone.
UNBOUNDED = (UNSAFE, NONE, BALANCES, MIXED, SIX, Book(1, []), Book(2, [(0, 3), (1, 1)]), Book(3, [(2, 0, 0), (0, 2, 0), (1, 0, 5)]))


def stuck_plainly(book):
    """All stuck crowds of a book with a greatest number of members, ascending."""
    trial = Trial(book)
    most = [min(sum(batch) for batch in book.batches if batch[kind] == sum(batch)) for kind in range(book.kinds)]
    return [crowd for crowd in product(*[range(number) for number in most]) if trial.is_stuck(crowd)]


class StuckCrowds(Refusals):

    def test_examples(self):
        self.same(stuck_crowds(PAIRS, 0), ((0, 0),))
        self.same(stuck_crowds(PAIRS, 1), ((0, 1), (1, 0)))
        self.same(stuck_crowds(book=PAIRS, size=2), ((0, 2), (2, 0)))
        self.same(stuck_crowds(PAIRS, 3), ())
        self.same(stuck_counts(PAIRS, 4), (1, 2, 2, 0, 0))
        self.same(stuck_counts(book=PAIRS, most=0), (1,))
        self.same(stuck_crowds(NONE, 2), ((0, 2), (1, 1), (2, 0)))
        self.same(stuck_counts(NONE, 12), tuple(range(1, 14)))
        self.same(stuck_crowds(Book(1, []), 12), ((12,),))
        self.same(stuck_crowds(Book(1, [(1,)]), 0), ((0,),))
        self.same(stuck_counts(Book(1, [(1,)]), 12), (1,) + (0,) * 12)

    def test_each_book(self):
        for book in BOOKS + BOUNDED + UNBOUNDED:
            most = {1: 12, 2: 12, 3: 12, 4: 8}.get(book.kinds, 6)
            trial = Trial(book)
            wanted = []
            for size in range(most + 1):
                crowds = tuple(crowd for crowd in crowds_of_size(book.kinds, size) if trial.is_stuck(crowd))
                self.same(stuck_crowds(book, size), crowds)
                wanted.append(len(crowds))
            self.same(stuck_counts(book, most), tuple(wanted))

    def test_six_kinds_and_twelve_members(self):
        for book in (SIX, EIGHTS, Book(6, []), Book(6, [(0, 0, 0, 0, 0, 1), (1, 1, 0, 0, 0, 0)])):
            trial = Trial(book)
            wanted = tuple(crowd for crowd in crowds_of_size(6, 12) if trial.is_stuck(crowd))
            self.same(stuck_crowds(book, 12), wanted)
            counts = stuck_counts(book, 12)
            self.assertEqual(len(counts), 13)
            self.assertEqual(counts[12], len(wanted))
            self.assertEqual(counts[:6], stuck_counts(book, 5))
        self.same(stuck_counts(Book(6, []), 12)[12], 6188)

    def test_whatever_is_within_is_stuck(self):
        for book in (PAIRS, UNSAFE, CLOCKS, Book(3, [(1, 2, 0), (0, 2, 4), (3, 0, 3)])):
            for size in range(1, 8):
                smaller = stuck_crowds(book, size - 1)
                for crowd in stuck_crowds(book, size):
                    for kind in range(book.kinds):
                        if crowd[kind]:
                            one_less = tuple(number - (at == kind) for at, number in enumerate(crowd))
                            self.assertIn(one_less, smaller)


class MostLeft(Refusals):

    def test_alone(self):
        self.same(alone(PAIRS), (3, 3))
        self.same(alone(UNSAFE), (2, None))
        self.same(alone(book=NONE), (None, None))
        self.same(alone(Book(2, [(8, 0), (5, 0), (0, 7), (2, 2)])), (5, 7))
        self.same(alone(Book(1, [(6,), (4,), (8,)])), (4,))
        self.same(alone(SIX), (1, None, None, None, None, None))
        self.same(alone(EIGHTS), (8,) * 6)
        self.same(alone(Book(3, [(1, 1, 1), (0, 1, 1), (0, 0, 2)])), (None, None, 2))

    def test_greatest_numbers(self):
        self.same(most_left(PAIRS), 2)
        self.same(largest_stuck(PAIRS), (0, 2))
        self.same(most_left(book=CLOCKS), 4)
        self.same(largest_stuck(book=CLOCKS), (3, 1))
        self.same(most_left(Book(1, [(1,)])), 0)
        self.same(largest_stuck(Book(1, [(1,)])), (0,))
        self.same(most_left(Book(2, [(5, 0), (0, 5), (1, 1)])), 4)
        self.same(largest_stuck(Book(2, [(5, 0), (0, 5), (1, 1)])), (0, 4))
        self.same(largest_stuck(Book(2, [(5, 0), (0, 5), (2, 1)])), (1, 4))
        self.same(most_left(Book(4, [(7, 0, 0, 0), (0, 7, 0, 0), (0, 0, 7, 0), (0, 0, 0, 8)])), 25)

    def test_each_book(self):
        for book in BOUNDED:
            crowds = stuck_plainly(book)
            most = max(sum(crowd) for crowd in crowds)
            self.same(most_left(book), most)
            self.same(largest_stuck(book), min(crowd for crowd in crowds if sum(crowd) == most))
            self.assertNotIn(None, alone(book))

    def test_no_greatest_number(self):
        for book in UNBOUNDED:
            self.assertIn(None, alone(book))
            self.assertIsNone(most_left(book))
            self.assertIsNone(largest_stuck(book))

    def test_safe_books(self):
        for book in BOOKS + BOUNDED:
            if all(sum(batch) < 7 for batch in book.batches) and len(book.batches) < 9 and is_safe(book):
                numbers = alone(book)
                self.assertEqual(None in numbers, 0 in moduli(book))
                if None not in numbers:
                    self.assertEqual(numbers, tuple(order_of(book, unit(book.kinds, kind)) for kind in range(book.kinds)))
                    self.assertTrue(most_left(book) < name_count(book))
                    self.try_row(book, largest_stuck(book))

    def try_row(self, book, crowd):
        """Put in a row, the first ones have unlike names, none of which comes to nought."""
        names, before = [], (0,) * book.kinds
        for kind, number in enumerate(crowd):
            for _ in range(number):
                before = added(before, unit(book.kinds, kind))
                names.append(name_of(book, before))
        self.assertEqual(len(set(names)), len(names))
        self.assertNotIn((0,) * book.kinds, names)


class ByName(Refusals):

    def test_examples(self):
        self.same(stuck_by_name(PAIRS), (((0, 0), ((0, 0),)), ((0, 1), ((0, 1), (2, 0))), ((0, 2), ((0, 2), (1, 0)))))
        self.same(stuck_by_name(book=Book(1, [(1,)])), (((0,), ((0,),)),))
        self.same(stuck_by_name(Book(1, [(2,), (3,)])), (((0,), ((0,), (1,))),))
        self.same(stuck_by_name(Book(1, [(4,), (6,)])), (((0,), ((0,), (2,))), ((1,), ((1,), (3,)))))

    def test_each_book(self):
        for book in BOUNDED:
            named = {}
            for crowd in stuck_plainly(book):
                named.setdefault(name_of(book, crowd), []).append(crowd)
            found = stuck_by_name(book)
            self.assertTrue(type(found) is tuple and is_plain(found))
            self.same(found, tuple((name, tuple(named[name])) for name in sorted(named)))
            if name_count(book) <= 1000:
                self.assertEqual(tuple(name for name, _ in found), all_names(book))
            else:
                self.assertEqual(len(found), name_count(book))

    def test_no_greatest_number(self):
        for book in UNBOUNDED:
            self.refused(Refused, 0, stuck_by_name, book)


if __name__ == "__main__":
    unittest.main()
