"""[37], [38], [39]: kinds left out, made one, beside each other, and the lots into which they fall."""

import unittest

from noneleft.books import Book
from noneleft.court import is_safe, is_strange, strange_crowd
from noneleft.errors import Refused
from noneleft.parts import beside, is_alike, made_one, part, parts, without_kinds
from noneleft.runs import all_ends
from noneleft.tables import is_nought
from refusals import Refusals
from samples import BALANCES, BOOKS, CLOCKS, EIGHTS, NONE, PAIRS, SIX, TWELVE, TWO_OF_EACH, UNSAFE
from test_court import SAFE, WRONG
from trial import (NO_NUMBERS, NO_SEQUENCES, NOTHING, Trial, added, crowds_up_to, is_plain, near_misses, taken, unit,
                   without)


def small(book):
    return all(sum(batch) < 7 for batch in book.batches) and len(book.batches) < 9


def subsets(kinds):
    """All ascending tuples of kinds."""
    found = [()]
    for kind in range(kinds):
        found += [chosen + (kind,) for chosen in found]
    return sorted(found)


class LeftOut(Refusals):

    def test_examples(self):
        self.assertEqual(without_kinds(PAIRS, (0,)), Book(1, [(3,)]))
        self.assertEqual(without_kinds(book=PAIRS, kinds=()), PAIRS)
        self.assertEqual(without_kinds(SIX, (1, 3)), Book(4, [(1, 0, 0, 0), (0, 2, 1, 0)]))
        self.assertEqual(without_kinds(SIX, (0, 1, 2, 3, 4)), Book(1, []))
        self.assertEqual(without_kinds(NONE, (1,)), Book(1, []))
        self.assertEqual(without_kinds(Book(3, [(1, 1, 0), (0, 2, 2), (0, 3, 0)]), (0,)), Book(2, [(2, 2), (3, 0)]))

    def test_each_book(self):
        for book in BOOKS:
            for chosen in subsets(book.kinds):
                if len(chosen) == book.kinds:
                    self.refused(Refused, book.kinds, without_kinds, book, chosen)
                    continue
                kept = [kind for kind in range(book.kinds) if kind not in chosen]
                wanted = [tuple(batch[kind] for kind in kept) for batch in book.batches
                          if not any(batch[kind] for kind in chosen)]
                found = without_kinds(book, chosen)
                self.assertEqual(found, Book(len(kept), wanted))
                self.assertTrue(is_plain(found.batches))

    def test_safe_books(self):
        for book in SAFE:
            for chosen in subsets(book.kinds)[:12]:
                if len(chosen) < book.kinds:
                    self.assertTrue(is_safe(without_kinds(book, chosen)))

    def test_refusals(self):
        for value in NO_SEQUENCES + ([], [0], [0, 1]):
            self.refused(Refused, 0, without_kinds, PAIRS, value)
            self.refused(Refused, 0, without_kinds, Book(1, []), value)
        for value in NO_NUMBERS + (2, 10 ** 20, 0):
            self.refused(Refused, 1, without_kinds, PAIRS, (0, value))
            self.refused(Refused, 1, without_kinds, PAIRS, (1, value, value))
        for value in NO_NUMBERS + (2, 10 ** 20):
            self.refused(Refused, 0, without_kinds, PAIRS, (value, 1))
            self.refused(Refused, 2, without_kinds, PAIRS, (0, 1, value))
        self.refused(Refused, 2, without_kinds, PAIRS, (0, 1))
        self.refused(Refused, 2, without_kinds, PAIRS, (0, 1, 1))
        self.refused(Refused, 1, without_kinds, PAIRS, (1, 0))
        self.refused(Refused, 1, without_kinds, Book(1, []), (0,))
        self.refused(Refused, 6, without_kinds, SIX, (0, 1, 2, 3, 4, 5))
        self.refused(Refused, 3, without_kinds, SIX, (0, 3, 4, 4))


class MadeOne(Refusals):

    def test_examples(self):
        self.assertEqual(made_one(PAIRS, 0, 1), Book(1, [(2,), (3,)]))
        self.assertEqual(made_one(book=PAIRS, one=1, other=0), Book(1, [(2,), (3,)]))
        self.assertEqual(made_one(BALANCES, 2, 0), Book(2, [(2, 1)]))
        self.assertEqual(made_one(TWO_OF_EACH, 1, 2), Book(3, [(2, 2, 0), (0, 4, 4), (2, 6, 4)]))
        self.assertEqual(made_one(NONE, 0, 1), Book(1, []))
        self.assertIs(is_alike(PAIRS, 0, 1), False)
        self.assertIs(is_alike(book=UNSAFE, one=1, other=0), True)
        self.assertIs(is_alike(BALANCES, 0, 2), False)
        self.assertIs(is_alike(Book(2, [(0, 1), (3, 0), (2, 1)]), 0, 1), True)

    def test_each_book(self):
        for book in BOOKS:
            for one in range(book.kinds):
                for other in range(book.kinds):
                    if one == other:
                        self.refused(Refused, 1, made_one, book, one, other)
                        self.refused(Refused, 1, is_alike, book, one, other)
                        continue
                    self.try_pair(book, one, other)

    def try_pair(self, book, one, other):
        # Member by member: each is of a kind that may become another one.
        renamed = [min(one, other) if kind == max(one, other) else kind for kind in range(book.kinds)]
        renamed = [kind - (kind > max(one, other)) for kind in renamed]
        wanted = set()
        for batch in book.batches:
            new = (0,) * (book.kinds - 1)
            for kind, number in enumerate(batch):
                new = added(new, taken(number, unit(book.kinds - 1, renamed[kind])))
            wanted.add(new)
        self.assertEqual(made_one(book, one, other), Book(book.kinds - 1, sorted(wanted)))
        difference = without(unit(book.kinds, one), unit(book.kinds, other))
        self.assertIs(is_alike(book, one, other), is_nought(book, difference))

    def test_safe_books(self):
        tried = 0
        for book in SAFE:
            for one in range(book.kinds):
                for other in range(one):
                    if is_alike(book, one, other):
                        tried += 1
                        self.assertTrue(is_safe(made_one(book, one, other)))
                        trial = Trial(book)
                        exchange = without(unit(book.kinds, other), unit(book.kinds, one))
                        for crowd in crowds_up_to(book.kinds, 6 if book.kinds < 4 else 3):
                            if crowd[one] and trial.clears(crowd):
                                self.assertTrue(trial.clears(added(crowd, exchange)))
        self.assertTrue(tried > 3)

    def test_refusals(self):
        for function in (made_one, is_alike):
            for value in NO_NUMBERS + (2, 7, 10 ** 20):
                self.refused(Refused, 0, function, PAIRS, value, 1)
                self.refused(Refused, 0, function, PAIRS, value, value)
                self.refused(Refused, 1, function, PAIRS, 0, value)
                self.refused(Refused, 1, function, PAIRS, 1, value)
            self.refused(Refused, 0, function, Book(1, []), 1, 1)
            self.refused(Refused, 1, function, Book(1, []), 0, 0)
            self.refused(Refused, 1, function, Book(1, []), 0, 1)


class Beside(Refusals):

    def test_beside(self):
        self.assertEqual(beside(PAIRS, Book(1, [(2,)])), Book(3, [(0, 3, 0), (1, 1, 0), (3, 0, 0), (0, 0, 2)]))
        self.assertEqual(beside(one=Book(1, [(2,)]), other=PAIRS), Book(3, [(0, 0, 3), (0, 1, 1), (0, 3, 0), (2, 0, 0)]))
        self.assertEqual(beside(NONE, Book(1, [])), Book(3, []))
        self.assertEqual(beside(UNSAFE, UNSAFE), Book(4, [(1, 1, 0, 0), (2, 0, 0, 0), (0, 0, 1, 1), (0, 0, 2, 0)]))
        for one in BOOKS[:12]:
            for other in BOOKS[:12]:
                both = beside(one, other)
                self.assertEqual(both.kinds, one.kinds + other.kinds)
                self.assertEqual(set(both.batches), {batch + (0,) * other.kinds for batch in one.batches}
                                 | {(0,) * one.kinds + batch for batch in other.batches})
                self.assertTrue(is_plain(both.batches))
                if small(both) and both.kinds < 6:
                    self.assertEqual(is_safe(both), is_safe(one) and is_safe(other))

    def test_parts(self):
        self.same(parts(Book(3, [(1, 0, 1)])), ((0, 2), (1,)))
        self.same(parts(PAIRS), ((0, 1),))
        self.same(parts(book=NONE), ((0,), (1,)))
        self.same(parts(CLOCKS), ((0,), (1,)))
        self.same(parts(EIGHTS), ((0,), (1,), (2,), (3,), (4,), (5,)))
        self.same(parts(TWELVE), ((0, 1, 2, 3),))
        self.same(parts(Book(6, [(1, 0, 0, 0, 0, 1), (0, 0, 1, 1, 0, 0), (0, 1, 0, 0, 1, 0), (0, 0, 2, 0, 0, 1)])),
                  ((0, 2, 3, 5), (1, 4)))
        # Lots that met others before meet now.
        self.same(parts(Book(5, [(0, 0, 0, 1, 1), (0, 1, 1, 0, 0), (1, 0, 0, 0, 1), (1, 1, 0, 0, 0)])), ((0, 1, 2, 3, 4),))

    def test_each_book(self):
        for book in BOOKS + SAFE + WRONG + (beside(PAIRS, UNSAFE), beside(beside(CLOCKS, PAIRS), UNSAFE)):
            lots = parts(book)
            self.assertTrue(is_plain(lots) and lots == tuple(sorted(lots)))
            self.assertEqual(sorted(kind for lot in lots for kind in lot), list(range(book.kinds)))
            for lot in lots:
                self.assertEqual(lot, tuple(sorted(self.reached(book, lot[0]))))
                wanted = [tuple(batch[kind] for kind in lot) for batch in book.batches if any(batch[kind] for kind in lot)]
                self.assertEqual(part(book, lot), Book(len(lot), wanted))
                self.assertTrue(is_plain(part(book, lot).batches))
            self.try_facts(book, lots)

    def reached(self, book, kind):
        """All kinds that belong together with this one."""
        found = {kind}
        while True:
            more = {other for batch in book.batches if any(batch[one] for one in found)
                    for other in range(book.kinds) if batch[other]}
            if more <= found:
                return found
            found |= more

    def try_facts(self, book, lots):
        if not small(book):
            return
        self.assertEqual(is_safe(book), all(is_safe(part(book, lot)) for lot in lots))
        for lot in lots:
            strange = strange_crowd(part(book, lot))
            if strange is not None:
                self.assertTrue(is_strange(book, self.spread_out(book, lot, strange)))
        for crowd in crowds_up_to(book.kinds, 6 if book.kinds < 4 else 3):
            lefts = {(0,) * book.kinds}
            for lot in lots:
                own = tuple(crowd[kind] for kind in lot)
                lefts = {added(left, self.spread_out(book, lot, more)) for left in lefts for more in all_ends(part(book, lot), own)}
            self.assertEqual(all_ends(book, crowd), tuple(sorted(lefts)))

    def spread_out(self, book, lot, crowd):
        """The crowd of a lot as a crowd of all kinds."""
        return tuple(crowd[lot.index(kind)] if kind in lot else 0 for kind in range(book.kinds))

    def test_no_lot(self):
        book = Book(4, [(1, 0, 1, 0), (0, 2, 0, 0)])
        self.same(parts(book), ((0, 2), (1,), (3,)))
        self.assertEqual(part(book=book, kinds=(0, 2)), Book(2, [(1, 1)]))
        self.assertEqual(part(book, (1,)), Book(1, [(2,)]))
        self.assertEqual(part(book, (3,)), Book(1, []))
        for value in NOTHING + ((), (0,), (2,), (2, 0), (0, 2, 3), (1, 3), (0, 1, 2, 3), [0, 2], [1], (4,), (-1,), ((0, 2),), 1,
                                (True,), (1.0,), (False, 2), ((0, 2), (1,))):
            self.refused(Refused, 0, part, book, value)
        for value in near_misses((0, 2)):
            self.refused(Refused, 0, part, book, value)


if __name__ == "__main__":
    unittest.main()
