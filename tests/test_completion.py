"""[35], [36]: the least safe book with the same signed sums, and how it is reached."""

import unittest

from noneleft.books import Book
from noneleft.completion import completion, grown, missing
from noneleft.court import is_safe, is_strange, strange_crowd
from noneleft.errors import Refused
from noneleft.naming import name_count
from noneleft.tables import is_nought, same_names, signed_table
from refusals import Refusals
from samples import BALANCES, BOOKS, EIGHTS, NONE, PAIRS, SIX, TWELVE, UNSAFE
from test_court import LARGE, SAFE, WRONG
from trial import Trial, crowds_up_to, is_plain, is_signed_sum, within

# More than eight batches would be wanted; a strange crowd of more than six members; a batch of more than six members.
TOO_MANY = (Book(3, [(3, 0, 0), (2, 1, 0), (2, 0, 1)]), Book(3, [(3, 0, 0), (0, 3, 0), (0, 0, 3), (1, 1, 1), (1, 2, 0)]),
            Book(4, [(2, 0, 0, 0), (1, 1, 0, 0), (1, 0, 1, 0), (1, 0, 0, 1)]), TWELVE)
TOO_LARGE = (Book(2, [(3, 2), (1, 3)]), Book(2, [(1, 3), (5, 1)]), Book(1, [(8,)]), Book(1, [(7,)]), Book(2, [(1, 6)]),
             Book(2, [(4, 3), (2, 0)]), Book(2, [(1, 4), (2, 1)]), Book(3, [(2, 3, 2)]), Book(1, [(2,), (8,)]), EIGHTS)


def strange_plainly(book, most):
    """All strange crowds of at most so many members, the smallest first."""
    table, found = signed_table(book), []
    for crowd in crowds_up_to(book.kinds, most)[1:]:
        if is_signed_sum(table, crowd):
            if not any(within(other, crowd) for other in found):
                found.append(crowd)
    return [crowd for crowd in found if crowd not in book.batches]


class Completion(Refusals):

    def test_examples(self):
        book = Book(1, [(2,), (3,)])
        self.same(missing(book), ((1,),))
        self.assertEqual(completion(book), Book(1, [(1,), (2,), (3,)]))
        self.same(completion(Book(2, [(2, 0), (0, 2), (1, 1)])).batches, ((0, 2), (1, 1), (2, 0)))
        self.same(missing(book=UNSAFE), ((0, 2),))
        self.assertEqual(completion(book=UNSAFE), Book(2, [(0, 2), (1, 1), (2, 0)]))
        self.assertEqual(grown(book=UNSAFE), (UNSAFE, Book(2, [(0, 2), (1, 1), (2, 0)])))
        self.same(missing(Book(1, [(4,), (6,)])), ((2,),))
        self.same(missing(Book(3, [(1, 1, 0), (0, 1, 1), (1, 0, 1)])), ((0, 0, 2), (0, 2, 0), (2, 0, 0)))

    def test_safe_books(self):
        for book in SAFE:
            if max(map(sum, book.batches), default=0) > 6:
                continue
            self.assertEqual(completion(book), book)
            self.same(missing(book), ())
            self.assertEqual(grown(book), (book,))
        for book in (NONE, Book(1, []), Book(6, [])):
            self.assertEqual(completion(book), book)
            self.assertEqual(grown(book), (book,))

    def test_each_book(self):
        told = 0
        for book in BOOKS + SAFE + WRONG + LARGE + TOO_MANY + TOO_LARGE:
            if max(map(sum, book.batches), default=0) > 6 or len(book.batches) > 8:
                self.try_refused(book)
                continue
            # As long as there are few names, no strange crowd has more members than there are names.
            most = name_count(book) or 13
            if most > {1: 40, 2: 40, 3: 14}.get(book.kinds, 7):
                most = 9 if book.kinds < 6 else 7
            strange = strange_plainly(book, most)
            if len(book.batches) + len(strange) > 8 or any(sum(crowd) > 6 for crowd in strange):
                self.try_refused(book)
                continue
            whole = Book(book.kinds, book.batches + tuple(strange))
            if not is_safe(whole):
                self.assertTrue(sum(strange_crowd(whole)) > most)
                self.try_refused(book)
                continue
            told += bool(strange)
            self.assertEqual(completion(book), whole, book.batches)
            self.same(missing(book), tuple(sorted(strange)))
            self.try_grown(book, strange)
        self.assertTrue(told > 10)

    def try_refused(self, book):
        for function in (completion, missing, grown):
            self.refused(Refused, 0, function, book)

    def try_grown(self, book, strange):
        books = grown(book)
        self.assertIs(type(books), tuple)
        self.assertEqual(books[0], book)
        self.assertEqual([set(later.batches) - set(former.batches) for former, later in zip(books, books[1:])],
                         [{crowd} for crowd in sorted(strange, key=lambda crowd: (sum(crowd), crowd))])
        for one in books[:-1]:
            self.assertIs(is_safe(one), False)
        self.assertIs(is_safe(books[-1]), True)
        for former, later in zip(books, books[1:]):
            self.assertTrue(same_names(former, later))
            self.assertTrue(all(is_strange(former, crowd) for crowd in set(later.batches) - set(former.batches)))

    def test_order_in_which_they_grow(self):
        # The smallest first, and only then the first of them.
        for batches, wanted in (([(0, 1, 1), (0, 2, 2), (1, 2, 0), (1, 0, 1)], [(0, 0, 3), (0, 3, 0), (2, 1, 0), (3, 0, 0)]),
                                ([(1, 1), (5, 1)], [(0, 4), (4, 0)]), ([(1, 2), (3, 0), (4, 2)], [(0, 6)]),
                                ([(2, 1), (1, 2), (0, 4)], [(0, 1), (1, 0)]), ([(2, 0), (3, 2)], [(1, 2), (0, 4)]),
                                ([(2, 0), (3, 3)], [(1, 3), (0, 6)]), ([(1, 2), (2, 2)], [(1, 0), (0, 2)])):
            book = Book(len(batches[0]), batches)
            self.assertEqual([set(later.batches) - set(former.batches) for former, later in zip(grown(book), grown(book)[1:])],
                             [{crowd} for crowd in wanted])
            self.assertEqual(missing(book), tuple(sorted(wanted)))

    def test_too_many_and_too_large(self):
        for book in TOO_MANY + TOO_LARGE:
            self.try_refused(book)
        # Just eight batches, and just six members, are told.
        book = Book(2, [(0, 6), (1, 5)])
        self.same(completion(book).batches, ((0, 6), (1, 5), (2, 4), (3, 3), (4, 2), (5, 1), (6, 0)))
        book = Book(2, [(0, 6), (1, 5), (2, 4), (6, 0)])
        self.assertEqual(len(completion(book).batches), 7)
        book = Book(3, [(0, 6, 0), (1, 5, 0), (0, 0, 6)])
        self.assertEqual(len(completion(book).batches), 8)
        self.try_refused(Book(4, [(0, 6, 0, 0), (1, 5, 0, 0), (0, 0, 6, 0), (0, 0, 0, 6)]))

    def test_facts(self):
        for book in (UNSAFE, Book(1, [(4,), (6,)]), Book(2, [(2, 1), (1, 2), (0, 4)]), Book(3, [(1, 1, 0), (0, 1, 1), (1, 0, 1)]),
                     SIX, BALANCES, PAIRS):
            try:
                whole = completion(book)
            except Refused:
                continue
            self.assertTrue(is_plain(whole.batches))
            self.assertTrue(same_names(book, whole))
            self.assertTrue(is_safe(whole))
            self.assertEqual(completion(whole), whole)
            trial = Trial(whole)
            for crowd in crowds_up_to(book.kinds, {1: 12, 2: 8, 3: 6}.get(book.kinds, 3)):
                self.assertEqual(trial.clears(crowd), is_nought(book, crowd))


if __name__ == "__main__":
    unittest.main()
