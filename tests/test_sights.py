"""[44], [45], [46]: sights, safe books that agree with them, and papers that there are none."""

import unittest

from noneleft.books import Book
from noneleft.completion import completion
from noneleft.court import is_safe
from noneleft.errors import InvalidBook, InvalidQuestion, Refused
from noneleft.naming import is_naming, naming
from noneleft.runs import all_ends
from noneleft.sights import (Sights, agrees, fitting_naming, is_fitting_naming, is_wrong_paper, seen_book, with_sight,
                             wrong_paper)
from refusals import Refusals
from samples import BOOKS, MIXED, PAIRS, UNSAFE
from test_court import SAFE
from trial import (NO_NUMBERS, NO_SEQUENCES, NOTHING, Alike, Trial, added, box, cleared, crowds_of_size, crowds_up_to, is_plain,
                   is_signed_sum, near_misses, within, without)

SEEN = Sights(2, [((2, 1), (1, 0)), ((0, 2), (0, 2))])
WRONG = Sights(1, [((4,), (1,)), ((2,), (0,))])
NO_KINDS = (0, -1, True, False, None, 1.0, "1", (1,), [1], Alike())
NO_SIGHTS = NO_SEQUENCES + ((), ((1, 1),), ((1, 1), (1, 1), (1, 1)), [(1, 1), (1, 1)], ((1, 1), [1, 1]), ([1, 1], (1, 1)),
                            ((1, 1), (1, 2)), ((1, 1), (2, 0)), ((1, 1), (1,)), ((1,), (1,)), ((1, 1, 1), (1, 1, 1)),
                            ((1, 1), None), ((1, 1), (1, True)), ((True, 1), (0, 0)), ((1, 1), (-1, 1)), ((1.0, 1), (0, 0)),
                            ((1, 1), ("", 1)), ((1, 1), 0), (0, (1, 1)), "ab")


def some_sights():
    """Sights of many sorts, of up to three kinds."""
    found = [Sights(1, []), Sights(2, []), Sights(3, []), SEEN, WRONG, Sights(1, [((2,), (0,)), ((1,), (1,))]),
             Sights(2, [((0, 0), (0, 0))]), Sights(2, [((4, 4), (4, 4))]), Sights(2, [((3, 1), (1, 0)), ((1, 3), (0, 1))]),
             Sights(1, [((8,), (2,)), ((3,), (3,))]), Sights(1, [((8,), (2,)), ((3,), (3,)), ((5,), (1,))]),
             Sights(2, [((2, 2), (0, 0)), ((1, 1), (1, 1))]), Sights(2, [((2, 2), (0, 0)), ((2, 0), (2, 0)), ((0, 2), (0, 2))]),
             Sights(2, [((4, 0), (1, 0)), ((2, 1), (2, 1))]), Sights(2, [((4, 0), (1, 0)), ((2, 1), (0, 0)), ((1, 1), (1, 1))]),
             Sights(3, [((1, 1, 1), (0, 0, 0)), ((2, 0, 1), (2, 0, 1))]), Sights(3, [((3, 1, 0), (0, 0, 0)), ((0, 3, 1), (0, 1, 0)),
                                                                                  ((1, 0, 3), (0, 0, 0))]),
             Sights(2, [((1, 2), (0, 1)), ((2, 1), (1, 1))]), Sights(2, [((3, 0), (0, 0)), ((0, 2), (0, 0)), ((1, 1), (1, 1)),
                                                                     ((2, 1), (2, 1))])]
    # What is seen where some book is used, always the first batch that fits and always the last one.
    for book in (PAIRS, UNSAFE, MIXED, Book(1, [(2,), (3,)]), Book(1, [(6,), (4,)]), Book(2, [(2, 1), (1, 2), (0, 4)]),
                 Book(3, [(1, 1, 0), (0, 1, 1), (1, 0, 1)])):
        for crowds in (crowds_of_size(book.kinds, 3), crowds_of_size(book.kinds, 5)[::2], crowds_up_to(book.kinds, 4)[::3]):
            for place in (0, -1):
                found.append(Sights(book.kinds, [(crowd, all_ends(book, crowd)[place]) for crowd in crowds[:16]]))
    return found


SIGHTS = some_sights()
SMALL_NAMINGS = {1: [((m, (h,)),) for m in range(2, 7) for h in range(m)] + [((0, (1,)),), ((0, (0,)),)],
                 2: [((m, (h, g)),) for m in range(2, 6) for h in range(m) for g in range(m)]
                 + [((0, (h, g)),) for h in range(-3, 4) for g in range(-3, 4)]
                 + [((2, (1, 0)), (2, (0, 1))), ((0, (1, -1)), (2, (1, 0))), ((0, (1, 0)), (0, (0, 1)))],
                 3: [((m, (h, g, f)),) for m in range(2, 4) for h in range(m) for g in range(m) for f in range(m)]
                 + [((0, (1, -1, 0)), (3, (1, 1, 2))), ((0, (1, -1, 0)), (0, (0, 1, -1)))]}


def tells_nothing(pairs, crowd):
    sums = [(modulus, sum(number * hour for number, hour in zip(crowd, hours))) for modulus, hours in pairs]
    return all(total % modulus == 0 if modulus else total == 0 for modulus, total in sums)


def gone_of(sights):
    """All that went off at once, without that of nobody."""
    return sorted({without(came, left) for came, left in sights.pairs if came != left})


def stayed_of(sights):
    """All crowds but nobody within crowds that were left."""
    return sorted({crowd for _, left in sights.pairs for crowd in box(left) if any(crowd)})


def fits_plainly(sights, pairs):
    return (all(tells_nothing(pairs, crowd) for crowd in gone_of(sights))
            and not any(tells_nothing(pairs, crowd) for crowd in stayed_of(sights)))


def some_safe_agrees(sights):
    """Whether nobody who was left is a signed sum of what went off."""
    batches = tuple(gone_of(sights))
    return not any(is_signed_sum(batches, crowd) for crowd in stayed_of(sights))


class SightsTold(Refusals):

    def test_attributes(self):
        self.same((SEEN.kinds, SEEN.pairs), (2, (((0, 2), (0, 2)), ((2, 1), (1, 0)))))
        twice = Sights(kinds=1, pairs=[((3,), (1,)), ((1,), (1,)), ((3,), (1,)), ((3,), (0,))])
        self.same(twice.pairs, (((1,), (1,)), ((3,), (0,)), ((3,), (1,))))
        self.same((Sights(6, ()).kinds, Sights(6, ()).pairs), (6, ()))
        self.same(Sights(2, (((0, 0), (0, 0)),)).pairs, (((0, 0), (0, 0)),))
        for sights in SIGHTS:
            self.assertTrue(is_plain((sights.kinds, sights.pairs)))
            self.assertEqual(list(sights.pairs), sorted(set(sights.pairs)))

    def test_equal(self):
        self.assertTrue(SEEN == Sights(2, (((0, 2), (0, 2)), ((2, 1), (1, 0)), ((0, 2), (0, 2)))))
        self.assertFalse(SEEN != Sights(2, [((0, 2), (0, 2)), ((2, 1), (1, 0))]))
        for other in (Sights(2, [((0, 2), (0, 2))]), Sights(2, []), Book(2, []), SEEN.pairs, (2, SEEN.pairs), None, 2, "", Book(2, [(1, 1)])):
            self.assertFalse(SEEN == other)
            self.assertTrue(SEEN != other)
        self.assertFalse(Sights(1, []) == Sights(2, []))
        self.assertFalse(Sights(2, []) == Book(2, []))
        self.assertFalse(Book(2, []) == Sights(2, []))

    def test_later_changes(self):
        pairs = [((2, 1), (1, 0))]
        sights = Sights(2, pairs)
        pairs.append(((1, 1), (0, 0)))
        pairs[0] = None
        self.same(sights.pairs, (((2, 1), (1, 0)),))

    def test_refusals(self):
        for kinds in NO_KINDS:
            self.refused(InvalidBook, 0, Sights, kinds, [])
            self.refused(InvalidBook, 0, Sights, kinds, None)
            self.refused(InvalidBook, 0, Sights, kinds, [None])
        for pairs in NO_SEQUENCES:
            self.refused(InvalidQuestion, 0, Sights, 2, pairs)
        for value in NO_SIGHTS:
            self.refused(InvalidQuestion, 0, Sights, 2, [value])
            self.refused(InvalidQuestion, 1, Sights, 2, (((1, 1), (0, 0)), value))
            self.refused(InvalidQuestion, 2, Sights, 2, [((1, 1), (0, 0)), ((1, 1), (0, 0)), value, None])
            self.refused(InvalidQuestion, 0, with_sight, SEEN, value)
        for value in near_misses(((2, 1), (1, 0))):
            self.refused(InvalidQuestion, 0, with_sight, SEEN, value)

    def test_with_sight(self):
        more = with_sight(SEEN, ((1, 1), (0, 0)))
        self.same(more.pairs, (((0, 2), (0, 2)), ((1, 1), (0, 0)), ((2, 1), (1, 0))))
        self.assertEqual(with_sight(sights=SEEN, value=((0, 2), (0, 2))), SEEN)
        self.same(SEEN.pairs, (((0, 2), (0, 2)), ((2, 1), (1, 0))))
        self.same(with_sight(Sights(1, []), ((0,), (0,))).pairs, (((0,), (0,)),))


class Agreement(Refusals):

    def test_agrees(self):
        self.assertIs(agrees(Book(2, [(1, 1)]), SEEN), True)
        self.assertIs(agrees(book=PAIRS, sights=SEEN), True)
        self.assertIs(agrees(Book(2, [(0, 1)]), SEEN), False)
        self.assertIs(agrees(Book(2, [(0, 3), (1, 1)]), SEEN), True)
        self.assertIs(agrees(Book(2, []), SEEN), False)
        for book in BOOKS:
            if book.kinds > 3:
                continue
            trial = Trial(book)
            for sights in SIGHTS:
                if sights.kinds == book.kinds:
                    wanted = all(left in trial.ends(came) for came, left in sights.pairs)
                    self.assertIs(agrees(book, sights), wanted)
                else:
                    self.refused(Refused, 0, agrees, book, sights)

    def test_agreeing_at_all(self):
        for sights in SIGHTS:
            book = seen_book(sights)
            stuck = not any(within(batch, left) for batch in book.batches for _, left in sights.pairs)
            self.assertIs(agrees(book, sights), stuck)

    def test_seen_book(self):
        self.assertEqual(seen_book(SEEN), Book(2, [(1, 1)]))
        self.assertEqual(seen_book(sights=WRONG), Book(1, [(2,), (3,)]))
        self.assertEqual(seen_book(Sights(3, [])), Book(3, []))
        self.assertEqual(seen_book(Sights(1, [((2,), (2,)), ((0,), (0,))])), Book(1, []))
        for sights in SIGHTS:
            self.assertEqual(seen_book(sights), Book(sights.kinds, gone_of(sights)))


class Fitting(Refusals):

    def test_fitting_namings(self):
        there = set()
        for sights in SIGHTS:
            found = fitting_naming(sights)
            there.add(found is None)
            self.assertEqual(found is not None, some_safe_agrees(sights), sights.pairs)
            if found is not None:
                self.assertTrue(fits_plainly(sights, found))
                self.assertIs(is_fitting_naming(sights, found), True)
                self.assertTrue(is_plain(found))
        self.assertEqual(there, {True, False})
        self.assertIsNone(fitting_naming(WRONG))
        self.assertTrue(fits_plainly(SEEN, fitting_naming(sights=SEEN)))

    def test_whether_a_naming_fits(self):
        for sights in SIGHTS:
            for pairs in SMALL_NAMINGS[sights.kinds]:
                self.assertIs(is_fitting_naming(sights, pairs), fits_plainly(sights, pairs))
        self.assertIs(is_fitting_naming(sights=SEEN, value=((3, (1, 2)),)), True)
        self.assertIs(is_fitting_naming(SEEN, ((2, (1, 1)),)), False)
        self.assertIs(is_fitting_naming(SEEN, ((0, (1, -1)),)), True)
        self.assertIs(is_fitting_naming(SEEN, ((0, (1, 1)),)), False)
        self.assertIs(is_fitting_naming(SEEN, ((3, (-5, 10 ** 29 + 2)),)), (10 ** 29 + 2 - 5) % 3 == 0)
        self.assertIs(is_fitting_naming(Sights(2, []), ()), True)
        self.assertIs(is_fitting_naming(Sights(2, [((1, 1), (0, 0))]), ()), True)
        self.assertIs(is_fitting_naming(SEEN, ()), False)

    def test_no_namings(self):
        for value in NOTHING + ([(3, (1, 2))], ((1, (1, 2)),), ((3, (1,)),), ((3, [1, 2]),), ((3, (1, 2)), None), ((True, (1, 2)),),
                                ((3, (1, True)),), ((-3, (1, 2)),)):
            self.assertIs(is_fitting_naming(SEEN, value), False, value)
        for value in near_misses(((3, (1, 2)),)):
            if value != ():
                self.assertIs(is_fitting_naming(SEEN, value), type(value) is tuple and len(value) == 2 and value[0] == value[1], value)

    def test_safe_books_agree_if_their_namings_fit(self):
        for book in SAFE:
            for sights in SIGHTS:
                if book.kinds == sights.kinds:
                    self.assertIs(is_fitting_naming(sights, naming(book)), agrees(book, sights))

    def test_completions(self):
        tried = 0
        for sights in SIGHTS:
            book = seen_book(sights)
            if fitting_naming(sights) is not None and all(sum(batch) < 7 for batch in book.batches):
                try:
                    whole = completion(book)
                except Refused:
                    continue
                self.assertTrue(agrees(whole, sights) and is_safe(whole))
                self.assertTrue(is_naming(book, naming(whole)))
                tried += 1
        self.assertGreater(tried, 5)

    def test_large_sights(self):
        # Sixteen sights of eight members of six kinds.
        stay = [(crowd, crowd) for crowd in crowds_of_size(6, 8)[::90]][:15]
        sights = Sights(6, stay)
        self.assertTrue(fits_plainly(sights, fitting_naming(sights)))
        self.assertIsNone(wrong_paper(sights))
        more = with_sight(sights, ((1, 1, 2, 1, 2, 1), (0, 0, 1, 0, 0, 1)))
        self.assertEqual(fitting_naming(more) is None, not some_safe_agrees(more))
        self.assertEqual(fitting_naming(more) is None, wrong_paper(more) is not None)


class WrongPapers(Refusals):

    def is_one(self, sights, paper):
        """Whether this is a wrong paper, tried plainly."""
        book = Book(sights.kinds, gone_of(sights))
        if type(paper) is not tuple or len(paper) != 3 or not is_plain(paper):
            return False
        gone, stayed, rest = paper
        if len(gone) != len(book.batches) or len(stayed) != len(book.batches) or min(gone + stayed, default=0) < 0:
            return False
        return rest in stayed_of(sights) and cleared(book, gone) == added(cleared(book, stayed), rest)

    def test_examples(self):
        self.assertIs(is_wrong_paper(WRONG, ((0, 1), (1, 0), (1,))), True)
        self.assertIs(is_wrong_paper(sights=WRONG, value=((0, 3), (4, 0), (1,))), True)
        self.assertIs(is_wrong_paper(WRONG, ((2, 0), (0, 1), (1,))), True)
        self.assertIs(is_wrong_paper(WRONG, ((0, 2), (3, 0), (0,))), False)
        self.assertIs(is_wrong_paper(WRONG, ((1, 0), (0, 0), (2,))), False)
        self.assertIs(is_wrong_paper(WRONG, ((0, 1), (1, 0), (2,))), False)
        self.assertIs(is_wrong_paper(WRONG, ((1, 0), (0, 1), (1,))), False)
        self.assertTrue(self.is_one(WRONG, wrong_paper(sights=WRONG)))

    def test_papers(self):
        for sights in SIGHTS:
            paper = wrong_paper(sights)
            self.assertEqual(paper is None, some_safe_agrees(sights))
            if paper is not None:
                self.assertTrue(self.is_one(sights, paper), (sights.pairs, paper))
                self.assertIs(is_wrong_paper(sights, paper), True)

    def test_counts_of_any_size(self):
        many = 2 * 10 ** 40
        self.assertIs(is_wrong_paper(WRONG, ((1, many + 1), (2 + 3 * many // 2, 0), (1,))), True)
        self.assertIs(is_wrong_paper(WRONG, ((0, many + 1), (2 + 3 * many // 2, 0), (1,))), False)

    def test_small_papers(self):
        sights = Sights(2, [((2, 2), (0, 0)), ((3, 1), (1, 0)), ((1, 2), (1, 0))])
        many = len(gone_of(sights))
        for counts in crowds_up_to(2 * many, 3):
            for rest in box((2, 1)):
                value = (counts[:many], counts[many:], rest)
                self.assertIs(is_wrong_paper(sights, value), self.is_one(sights, value))

    def test_no_papers(self):
        for value in NOTHING + tuple(near_misses(((0, 1), (1, 0), (1,)))):
            self.assertIs(is_wrong_paper(WRONG, value), False, value)
        for value in NO_NUMBERS:
            self.assertIs(is_wrong_paper(WRONG, ((0, 1), (1, 0), (value,))), False)
            self.assertIs(is_wrong_paper(WRONG, ((0, value), (1, 0), (1,))), False)
            self.assertIs(is_wrong_paper(WRONG, ((0, 1), (1, value), (1,))), False)
        self.assertIs(is_wrong_paper(SEEN, ((0,), (0,), (0, 0))), False)
        self.assertIs(is_wrong_paper(Sights(1, []), ((), (), (0,))), False)
        self.assertIs(is_wrong_paper(Sights(1, [((1,), (1,))]), ((), (), (1,))), False)

    def test_the_crowd_goes_wrong_in_each_book_that_agrees(self):
        tried = 0
        for sights in SIGHTS:
            paper = wrong_paper(sights)
            if paper is None:
                continue
            seen = seen_book(sights)
            crowd = cleared(seen, paper[0])
            for book in BOOKS + (seen,):
                if book.kinds == sights.kinds and agrees(book, sights) and sum(crowd) <= 30 and book.kinds < 4:
                    trial = Trial(book)
                    self.assertTrue(trial.clears(crowd) and paper[2] in trial.ends(crowd))
                    tried += 1
        self.assertGreater(tried, 3)


if __name__ == "__main__":
    unittest.main()
