"""[15], [17], [18], [19], [20]: safe books, papers, crowds that go wrong, strange crowds, summed batches."""

import unittest

from noneleft.books import Book, least_batches
from noneleft.court import (goes_wrong, is_safe, is_safe_paper, is_strange, is_unsafe_paper, least_wrong, require_safe,
                            safe_paper, strange_crowd, summed_batches, unsafe_paper)
from noneleft.covers import least_covers
from noneleft.errors import InvalidCrowd, NotSafe
from noneleft.naming import moduli, naming
from noneleft.runs import clearing_run, is_clearable
from noneleft.tables import signed_table, without_batch
from refusals import Refusals
from samples import BALANCES, BOOKS, MIXED, NONE, PAIRS, SIX, UNSAFE
from test_covers import EIGHT, EIGHT_OF_SIX
from trial import (NO_NUMBERS, NO_SEQUENCES, NOTHING, Trial, added, box, crowds_up_to, is_plain, is_signed_sum,
                   near_misses, taken, total, unit, within, without)

SAFE = (PAIRS, NONE, BALANCES, MIXED, Book(1, []), Book(1, [(6,)]), Book(1, [(1,)]), Book(1, [(2,), (4,)]),
        Book(2, [(2, 0), (1, 1), (0, 2)]), Book(2, [(0, 2), (4, 0)]), Book(2, [(0, 2), (2, 1), (4, 0)]),
        Book(2, [(0, 3), (1, 1), (2, 2), (3, 0), (3, 3)]), Book(2, [(0, 4), (1, 2), (2, 0)]),
        Book(2, [(0, 6), (1, 5), (2, 4), (3, 3), (4, 2), (5, 1), (6, 0)]),
        Book(3, [(1, 1, 0), (1, 0, 1)]), Book(3, [(1, 1, 0), (1, 0, 1), (2, 1, 1)]), Book(3, [(0, 1, 2), (2, 0, 0)]),
        Book(3, [(2, 0, 0), (0, 2, 0), (0, 0, 2), (1, 1, 0), (1, 0, 1), (0, 1, 1)]),
        Book(6, [tuple(6 * entry for entry in unit(6, kind)) for kind in range(6)]))
WRONG = (UNSAFE, SIX, EIGHT, EIGHT_OF_SIX, Book(1, [(2,), (3,)]), Book(1, [(4,), (6,)]), Book(2, [(2, 1), (1, 2), (0, 4)]),
         Book(2, [(2, 0), (0, 2), (2, 1)]), Book(3, [(1, 1, 0), (0, 1, 1), (1, 0, 1)]), Book(2, [(1, 2), (2, 1)]),
         Book(3, [(2, 2, 0), (0, 2, 2), (2, 0, 2)]), Book(2, [(1, 1), (2, 2), (5, 0), (0, 3)]),
         Book(6, [(1, 1, 0, 0, 0, 0), (0, 1, 1, 0, 0, 0), (0, 0, 1, 1, 0, 0), (0, 0, 0, 1, 1, 0), (0, 0, 0, 0, 1, 1),
                  (1, 0, 0, 0, 0, 1), (2, 0, 0, 2, 0, 2), (0, 6, 0, 0, 0, 0)]))
SMALL = [book for book in SAFE + WRONG + BOOKS if book.kinds < 4 and all(sum(batch) < 7 for batch in book.batches)]
# Just eight batches of six members each, of six kinds.
LARGE = (EIGHT_OF_SIX, EIGHT, Book(6, [(1, 5, 0, 0, 0, 0), (0, 1, 5, 0, 0, 0), (0, 0, 1, 5, 0, 0), (0, 0, 0, 1, 5, 0),
                                       (0, 0, 0, 0, 1, 5), (5, 0, 0, 0, 0, 1), (1, 1, 1, 1, 1, 1), (2, 0, 2, 0, 2, 0)]),
         Book(6, [(1, 1, 1, 1, 1, 1), (6, 0, 0, 0, 0, 0), (0, 3, 3, 0, 0, 0), (0, 0, 3, 3, 0, 0), (0, 0, 0, 3, 3, 0),
                  (0, 0, 0, 0, 3, 3), (0, 3, 0, 0, 0, 3), (2, 2, 2, 0, 0, 0)]))


def size_for(book):
    return {1: 16, 2: 9, 3: 6}[book.kinds]


def is_wrong(trial, crowd, pair):
    """Whether this is a pair of runs, the first of which clears the crowd, and the second leaves somebody at its end."""
    if type(pair) is not tuple or len(pair) != 2 or not is_plain(pair):
        return False
    first, second = pair
    if total(trial.kinds, trial.batches, first) != crowd:
        return False
    left = without(crowd, total(trial.kinds, trial.batches, second))
    return min(left) >= 0 and any(left) and trial.is_stuck(left)


class Safe(Refusals):

    def test_safe_books(self):
        for book in SAFE:
            self.assertIs(is_safe(book), True, book.batches)
            self.assertIsNone(require_safe(book))
        self.assertIs(is_safe(book=PAIRS), True)
        self.assertIsNone(require_safe(book=PAIRS))

    def test_other_books(self):
        for book in WRONG:
            self.assertIs(is_safe(book), False, book.batches)
            self.refused(NotSafe, 0, require_safe, book)

    def test_each_small_book(self):
        for book in SMALL:
            trial = Trial(book)
            most = 14 if book.kinds < 3 else 12
            if any(trial.goes_wrong(crowd) for crowd in crowds_up_to(book.kinds, most)):
                self.assertIs(is_safe(book), False, book.batches)
            else:
                self.assertTrue(is_safe(book) or sum(least_wrong(book)) > most, book.batches)

    def test_signed_sums_of_safe_books_are_clearable(self):
        for book in SMALL:
            trial = Trial(book)
            table = signed_table(book)
            most = size_for(book) + 3
            if all(trial.clears(crowd) for crowd in crowds_up_to(book.kinds, most) if is_signed_sum(table, crowd)):
                self.assertTrue(is_safe(book) or sum(strange_crowd(book)) > most, book.batches)
            else:
                self.assertIs(is_safe(book), False, book.batches)

    def test_least_covers_of_safe_books(self):
        for book in SMALL:
            trial = Trial(book)
            lefts = [without(total(book.kinds, book.batches, cover), batch)
                     for at, batch in enumerate(book.batches) for cover in trial.covers(at)]
            self.assertEqual(is_safe(book), all(trial.clears(left) for left in lefts))

    def test_safe_books_without_batches(self):
        for kinds in (1, 2, 6):
            self.assertIs(is_safe(Book(kinds, [])), True)


class SafePapers(Refusals):

    def test_papers(self):
        for book in SAFE + WRONG + LARGE:
            paper = safe_paper(book)
            if not is_safe(book):
                self.assertIsNone(paper)
                continue
            self.assertTrue(type(paper) is tuple and is_plain(paper))
            wanted = [(at, cover) for at in range(len(book.batches)) for cover in least_covers(book, at)]
            self.assertEqual([(at, cover) for at, cover, _ in paper], wanted)
            for at, cover, run in paper:
                left = without(total(book.kinds, book.batches, cover), book.batches[at])
                self.assertEqual(total(book.kinds, book.batches, run), left)
            self.assertIs(is_safe_paper(book, paper), True)
            self.assertIs(is_safe_paper(book=book, value=safe_paper(book=book)), True)

    def test_no_batches(self):
        self.same(safe_paper(NONE), ())
        self.assertIs(is_safe_paper(NONE, ()), True)
        for value in NO_SEQUENCES + ([], ((),), (None,), ((0, (0,), ()),)):
            self.assertIs(is_safe_paper(NONE, value), False)

    def test_runs_in_any_order(self):
        paper = ((0, (0,), ()), (0, (1, 1, 1), (2,)), (1, (0, 2), (1, 1)), (1, (1,), ()), (2, (1, 1, 1), (0,)), (2, (2,), ()))
        self.assertIs(is_safe_paper(PAIRS, paper), True)
        book = Book(2, [(0, 2), (0, 3), (1, 0), (1, 1)])
        self.assertIs(is_safe(book), False)
        book = Book(2, [(0, 1), (1, 0), (2, 1)])
        shown = ((0, (0,), ()), (0, (2,), (1, 1)), (1, (1,), ()), (1, (2,), (1, 0)), (2, (0, 1, 1), ()), (2, (0, 2), (0,)),
                 (2, (1, 2), (1,)), (2, (2,), ()))
        self.assertEqual([entry[:2] for entry in shown if entry[1] in least_covers(book, entry[0])],
                         [entry[:2] for entry in safe_paper(book)])
        shown = tuple(entry for entry in shown if entry[1] in least_covers(book, entry[0]))
        for run in ((1, 0), (0, 1)):
            value = tuple((at, cover, run if (at, cover) == (1, (2,)) else told) for at, cover, told in shown)
            self.assertIs(is_safe_paper(book, value), True)

    def test_near_misses(self):
        for book in (PAIRS, Book(1, [(2,), (4,)]), Book(2, [(2, 0), (1, 1), (0, 2)]), Book(3, [(1, 1, 0), (1, 0, 1)])):
            paper = safe_paper(book)
            for value in near_misses(paper):
                self.assertIs(is_safe_paper(book, value), False, value)
            for at in range(len(paper) - 1):
                swapped = paper[:at] + (paper[at + 1], paper[at]) + paper[at + 2:]
                self.assertIs(is_safe_paper(book, swapped), False)
            for at, (batch, cover, run) in enumerate(paper):
                for wrong in ((batch + 1, cover, run), (batch, cover[::-1] + cover, run), (batch, cover, run + (0,)),
                              (batch, cover, (len(book.batches),)), (batch, cover, (-1,)), (cover, batch, run)):
                    self.assertIs(is_safe_paper(book, paper[:at] + (wrong,) + paper[at + 1:]), False)

    def test_other_covers_of_the_same_length(self):
        paper = safe_paper(PAIRS)
        for at, (batch, cover, run) in enumerate(paper):
            for other in range(3):
                for place in range(len(cover)):
                    wrong = cover[:place] + (other,) + cover[place + 1:]
                    if wrong != cover:
                        value = paper[:at] + ((batch, wrong, run),) + paper[at + 1:]
                        self.assertIs(is_safe_paper(PAIRS, value), False)

    def test_covers_that_are_not_least(self):
        paper = safe_paper(PAIRS)
        for more in ((0, (0, 0), (0,)), (0, (0, 1), (1,)), (1, (1, 1), (1,))):
            self.assertIs(is_safe_paper(PAIRS, tuple(sorted(paper + (more,)))), False)

    def test_values_of_another_kind(self):
        for value in NOTHING + ((), PAIRS, safe_paper(Book(1, [(2,)])), unsafe_paper(UNSAFE)):
            self.assertIs(is_safe_paper(PAIRS, value), False)
        for book in WRONG:
            for value in NOTHING + ((), safe_paper(PAIRS)):
                self.assertIs(is_safe_paper(book, value), False)


class GoesWrong(Refusals):

    def test_examples(self):
        self.assertTrue(is_wrong(Trial(UNSAFE), (2, 2), goes_wrong(UNSAFE, (2, 2))))
        self.same(goes_wrong(UNSAFE, (2, 2)), ((0, 0), (1,)))
        self.same(goes_wrong(book=UNSAFE, crowd=[2, 2]), ((0, 0), (1,)))
        self.assertIsNone(goes_wrong(UNSAFE, (2, 0)))
        self.assertIsNone(goes_wrong(UNSAFE, (2, 1)))
        self.assertIsNone(goes_wrong(UNSAFE, (0, 2)))
        self.assertIsNone(goes_wrong(UNSAFE, (0, 0)))
        self.assertIsNone(goes_wrong(PAIRS, (3, 3)))

    def test_each_crowd(self):
        for book in SMALL:
            trial = Trial(book)
            for crowd in crowds_up_to(book.kinds, size_for(book)):
                found = goes_wrong(book, crowd)
                if trial.goes_wrong(crowd):
                    self.assertTrue(is_wrong(trial, crowd, found))
                    self.assertIs(is_unsafe_paper(book, (crowd,) + found), True)
                else:
                    self.assertIsNone(found)

    def test_crowds_of_up_to_64(self):
        for book, crowd in ((UNSAFE, (32, 32)), (Book(1, [(2,), (3,)]), (64,)), (Book(1, [(4,), (6,)]), (64,)),
                            (Book(2, [(1, 2), (2, 1)]), (32, 31)), (EIGHT_OF_SIX, (7, 8, 7, 9, 1, 10)),
                            (Book(3, [(2, 2, 0), (0, 2, 2), (2, 0, 2)]), (22, 20, 22))):
            if is_clearable(book, crowd):
                pair = goes_wrong(book, crowd)
                self.assertTrue(is_wrong(Trial(book), crowd, pair), (book.batches, crowd))
                self.assertIs(is_unsafe_paper(book, (crowd,) + pair), True)
            else:
                self.assertIsNone(goes_wrong(book, crowd))
        # Safe books, crowds on the edge, and crowds that are not clearable.
        self.assertIsNone(goes_wrong(PAIRS, (32, 32)))
        self.assertIsNone(goes_wrong(Book(2, [(1, 1), (2, 0)]), (64, 0)))
        self.assertIsNone(goes_wrong(Book(2, [(1, 1), (2, 0)]), (63, 1)))
        self.assertIsNone(goes_wrong(Book(2, [(1, 1), (2, 0)]), (31, 33)))
        self.assertIsNone(goes_wrong(NONE, (32, 32)))

    def test_large_books(self):
        for book in LARGE + WRONG:
            for shift in range(4):
                # A crowd that is cleared by the batches in turn.
                crowd, at = (0,) * book.kinds, shift
                while sum(crowd) + 6 <= 64:
                    crowd = added(crowd, book.batches[(at * at + shift) % len(book.batches)])
                    at += 1
                pair = goes_wrong(book, crowd)
                if pair is not None:
                    self.assertTrue(is_wrong(Trial(book), crowd, pair))
                for rest in crowds_up_to(book.kinds, 1):
                    more = goes_wrong(book, added(crowd, rest))
                    self.assertTrue(more is None or is_wrong(Trial(book), added(crowd, rest), more))

    def test_sums_with_clearable_crowds_go_wrong(self):
        for book in WRONG:
            for batch in book.batches:
                self.assertIsNotNone(goes_wrong(book, added(least_wrong(book), batch, batch)))

    def test_wrong_crowds(self):
        for value in NO_SEQUENCES + ((), (1,), (1, 2, 3)):
            self.refused(InvalidCrowd, 2, goes_wrong, UNSAFE, value)
            self.refused(InvalidCrowd, 2, goes_wrong, PAIRS, value)
        for entry in NO_NUMBERS:
            self.refused(InvalidCrowd, 0, goes_wrong, UNSAFE, (entry, entry))
            self.refused(InvalidCrowd, 1, goes_wrong, NONE, [1, entry])
            self.refused(InvalidCrowd, 2, goes_wrong, UNSAFE, [1, 2, entry])


class LeastWrong(Refusals):

    def test_examples(self):
        self.same(least_wrong(UNSAFE), (2, 2))
        self.same(least_wrong(book=Book(1, [(2,), (3,)])), (3,))
        self.same(least_wrong(Book(1, [(4,), (6,)])), (6,))
        self.same(least_wrong(Book(2, [(1, 2), (2, 1)])), (2, 4))
        self.same(least_wrong(Book(3, [(1, 1, 0), (0, 1, 1), (1, 0, 1)])), (1, 1, 2))
        self.assertIsNone(least_wrong(PAIRS))

    def test_each_book(self):
        for book in SMALL:
            trial = Trial(book)
            found = least_wrong(book)
            if found is None:
                self.assertIs(is_safe(book), True)
                continue
            self.assertIs(is_safe(book), False)
            wrong = [crowd for crowd in crowds_up_to(book.kinds, sum(found)) if trial.goes_wrong(crowd)]
            self.same(found, wrong[0])

    def test_large_books(self):
        for book in LARGE + WRONG:
            found = least_wrong(book)
            self.assertEqual(found is None, is_safe(book))
            if found is not None:
                self.assertTrue(is_plain(found) and Trial(book).goes_wrong(found))
                cleared = [total(book.kinds, book.batches, cover) for at in range(len(book.batches))
                           for cover in least_covers(book, at)]
                self.assertIn(found, cleared)
                wrong = [crowd for crowd in cleared if (sum(crowd), crowd) < (sum(found), found)]
                self.assertFalse(any(goes_wrong(book, crowd) for crowd in wrong))


class UnsafePapers(Refusals):

    def test_papers(self):
        for book in SAFE + WRONG + LARGE:
            paper = unsafe_paper(book)
            self.assertEqual(paper is None, is_safe(book))
            self.assertEqual(paper is None, safe_paper(book) is not None)
            if paper is not None:
                self.assertTrue(is_plain(paper) and type(paper) is tuple and len(paper) == 3)
                self.assertTrue(is_wrong(Trial(book), paper[0], paper[1:]))
                self.assertIs(is_unsafe_paper(book, paper), True)
                self.assertIs(is_unsafe_paper(book=book, value=unsafe_paper(book=book)), True)

    def test_runs_in_any_order(self):
        book = Book(1, [(4,), (6,)])
        self.assertIs(is_unsafe_paper(book, ((14,), (1, 0, 0), (1, 1))), True)
        self.assertIs(is_unsafe_paper(book, ((14,), (0, 1, 0), (0, 0, 0))), True)
        self.assertIs(is_unsafe_paper(book, ((16,), (0, 0, 0, 0), (1, 0, 0))), True)
        self.assertIs(is_unsafe_paper(book, ((16,), (0, 1, 1), (1, 0))), False)
        self.assertIs(is_unsafe_paper(book, ((18,), (1, 1, 1), (1, 0, 1))), True)
        self.assertIs(is_unsafe_paper(book, ((18,), (1, 1, 1), (0, 0, 0, 0))), True)
        self.assertIs(is_unsafe_paper(book, ((18,), (1, 1, 1), (0, 0, 0, 1))), False)

    def test_crowds_of_up_to_64(self):
        self.assertIs(is_unsafe_paper(UNSAFE, ((32, 32), (0,) * 32, (1,) * 16)), True)
        self.assertIs(is_unsafe_paper(UNSAFE, ((32, 32), (0,) * 32, (1,) * 15)), False)
        self.assertIs(is_unsafe_paper(UNSAFE, ((32, 32), (0,) * 32, (1,) * 17)), False)
        self.assertIs(is_unsafe_paper(UNSAFE, ((32, 32), (0,) * 32, (0, 1) * 10 + (0, 0))), True)
        self.assertIs(is_unsafe_paper(UNSAFE, ((32, 32), (0,) * 31 + (1,), (1,) * 16)), False)

    def test_near_misses(self):
        for book in WRONG:
            paper = unsafe_paper(book)
            for value in near_misses(paper):
                self.assertIs(is_unsafe_paper(book, value), False, (book.batches, value))
            crowd, run, other = paper
            for value in ((crowd, other, run), (crowd, run, run), (crowd, other, other), (run, crowd, other),
                          (added(crowd, unit(book.kinds, 0)), run, other), (crowd, run, ()), (crowd, (), other),
                          (crowd, run, other + (0,)), (crowd, run, (-1,)), (crowd, run, (len(book.batches),)),
                          (taken(-1, crowd), run, other), ((0,) * book.kinds, (), ())):
                self.assertIs(is_unsafe_paper(book, value), False, (book.batches, value))

    def test_values_of_another_kind(self):
        for book in SAFE + WRONG:
            for value in NOTHING + ((), ((0,) * book.kinds, (), ()), safe_paper(PAIRS), book):
                self.assertIs(is_unsafe_paper(book, value), False)
        for value in (unsafe_paper(UNSAFE), ((2, 2), (1, 1), ()), ((2, 2), (1, 1), (0,))):
            self.assertIs(is_unsafe_paper(PAIRS, value), False)
        self.assertIs(is_unsafe_paper(NONE, ((1, 1), (), ())), False)


class Strange(Refusals):

    def is_strange_plainly(self, book, crowd):
        table = signed_table(book)
        if not any(crowd) or crowd in book.batches or not is_signed_sum(table, crowd):
            return False
        return not any(any(inner) and inner != crowd and is_signed_sum(table, inner) for inner in box(crowd))

    def test_examples(self):
        self.assertIs(is_strange(UNSAFE, (0, 2)), True)
        self.assertIs(is_strange(book=UNSAFE, value=(0, 2)), True)
        self.same(strange_crowd(book=UNSAFE), (0, 2))
        self.same(strange_crowd(Book(1, [(2,), (3,)])), (1,))
        self.same(strange_crowd(Book(1, [(4,), (6,)])), (2,))
        for value in ((0, 1), (0, 4), (2, 0), (1, 1), (2, 2), (0, 0), (1, 0), (2, 1)):
            self.assertIs(is_strange(UNSAFE, value), False)

    def test_some_strange_crowd(self):
        for book in SAFE + WRONG + LARGE:
            found = strange_crowd(book)
            self.assertEqual(found is None, is_safe(book))
            if found is not None:
                self.assertTrue(is_plain(found) and type(found) is tuple)
                self.assertTrue(self.is_strange_plainly(book, found))
                self.assertIs(is_strange(book, found), True)
                self.assertTrue(Trial(book).is_stuck(found))

    def test_each_crowd(self):
        for book in SMALL:
            for crowd in crowds_up_to(book.kinds, size_for(book)):
                self.assertIs(is_strange(book, crowd), self.is_strange_plainly(book, crowd), (book.batches, crowd))

    def test_crowds_of_up_to_64(self):
        # Whatever number of the first kind is there, as many of the others must be there.
        book = Book(3, [(2, 2, 2), (3, 3, 0), (0, 0, 6)])
        self.assertIs(is_strange(book, (1, 1, 4)), True)
        # A clock that goes round only after many.
        chain = Book(3, [(5, 1, 0), (0, 5, 1), (0, 0, 6)])
        self.same(moduli(chain), (150,))
        (_, hours), = naming(chain)
        for crowd in ((0, 30, 0), (50, 0, 4), (25, 0, 5), (25, 0, 11), (0, 60, 0), (0, 0, 6), (0, 31, 33), (0, 29, 0),
                      (50, 0, 10), (4, 30, 0), (49, 0, 5)):
            wanted = sum(hour * number for hour, number in zip(hours, crowd)) % 150 == 0
            wanted = wanted and not any(any(inner) and inner != crowd and sum(
                hour * number for hour, number in zip(hours, inner)) % 150 == 0 for inner in box(crowd))
            wanted = wanted and crowd not in chain.batches
            self.assertIs(is_strange(chain, crowd), wanted, crowd)
        for crowd in ((0, 30, 0), (50, 0, 4), (25, 0, 5)):
            self.assertIs(is_strange(chain, crowd), True)
        # Six kinds: each one's hour is that of the one before, taken -2 times.
        doubled = Book(6, [(2, 1, 0, 0, 0, 0), (0, 2, 1, 0, 0, 0), (0, 0, 2, 1, 0, 0), (0, 0, 0, 2, 1, 0),
                           (0, 0, 0, 0, 2, 1), (0, 0, 0, 0, 0, 2)])
        for crowd in ((64, 0, 0, 0, 0, 0), (0, 32, 0, 0, 0, 0), (60, 0, 1, 0, 0, 0), (1, 0, 1, 1, 0, 1), (44, 0, 1, 0, 1, 0)):
            self.assertIs(is_strange(doubled, crowd), self.is_strange_plainly(doubled, crowd), crowd)
        for crowd in ((64, 0, 0, 0, 0, 0), (0, 32, 0, 0, 0, 0), (60, 0, 1, 0, 0, 0), (44, 0, 1, 0, 1, 0)):
            self.assertIs(is_strange(doubled, crowd), True)
        for crowd in ((63, 0, 0, 0, 0, 0), (0, 64, 0, 0, 0, 0), (32, 16, 0, 0, 0, 0), (11, 11, 11, 11, 10, 10), (2, 1, 0, 0, 0, 0)):
            self.assertIs(is_strange(doubled, crowd), False)
        self.assertIs(is_strange(Book(2, [(6, 0)]), (32, 32)), False)
        self.assertIs(is_strange(Book(6, [(1, 1, 1, 1, 1, 1)]), (11, 11, 11, 11, 10, 10)), False)
        self.assertIs(is_strange(Book(6, [(2, 2, 0, 0, 0, 0), (3, 3, 0, 0, 0, 0)]), (10, 10, 11, 11, 11, 11)), False)
        self.assertIs(is_strange(Book(6, [(2, 2, 0, 0, 0, 0), (3, 3, 0, 0, 0, 0)]), (1, 1, 0, 0, 0, 0)), True)

    def test_near_misses(self):
        for book in WRONG:
            found = strange_crowd(book)
            for value in near_misses(found):
                self.assertIs(is_strange(book, value), False, (book.batches, value))
            for value in (taken(2, found), taken(-1, found), added(found, book.batches[0]), found + found,
                          (0,) * book.kinds) + book.batches:
                self.assertIs(is_strange(book, value), False, (book.batches, value))

    def test_values_of_another_kind(self):
        for book in SAFE + WRONG:
            for value in NOTHING + ((), unsafe_paper(book), book, book.batches):
                if value != (1, 2, 3):
                    self.assertIs(is_strange(book, value), False, (book.batches, value))

    def test_some_is_left_wherever_it_goes_wrong(self):
        for book in WRONG:
            if book.kinds > 3:
                continue
            trial = Trial(book)
            for crowd in crowds_up_to(book.kinds, size_for(book)):
                if trial.goes_wrong(crowd):
                    for left in trial.ends(crowd):
                        if any(left):
                            self.assertTrue(any(is_strange(book, inner) for inner in box(left)))


class Summed(Refusals):

    def test_examples(self):
        self.same(summed_batches(PAIRS), ())
        self.same(summed_batches(book=NONE), ())
        self.same(summed_batches(Book(1, [(2,), (3,), (4,), (5,)])), (2, 3))
        self.same(summed_batches(Book(1, [(2,), (3,)])), ())
        self.same(summed_batches(Book(2, [(0, 3), (1, 1), (2, 2), (3, 0), (3, 3)])), (2, 4))
        self.same(summed_batches(Book(3, [(1, 1, 0), (1, 0, 1), (2, 1, 1), (2, 2, 1)])), (2,))
        self.same(summed_batches(Book(1, [(1,), (6,)])), (1,))

    def test_each_book(self):
        for book in SAFE + WRONG + BOOKS + LARGE:
            wanted = tuple(at for at, batch in enumerate(book.batches) if Trial(without_batch(book, at)).clears(batch))
            self.same(summed_batches(book), wanted)

    def test_safe_exactly_if_the_least_batches_are(self):
        for book in SAFE + WRONG:
            least = least_batches(book)
            wanted = is_safe(least) and all(is_clearable(least, batch) for batch in book.batches)
            self.assertEqual(is_safe(book), wanted)

    def test_summed_batches_of_safe_books(self):
        for book in SAFE:
            holding = tuple(at for at, batch in enumerate(book.batches)
                            if any(within(other, batch) and other != batch for other in book.batches))
            self.same(summed_batches(book), holding)
            for crowd in crowds_up_to(book.kinds, 5):
                self.assertEqual(clearing_run(book, crowd) is None, clearing_run(least_batches(book), crowd) is None)


if __name__ == "__main__":
    unittest.main()
