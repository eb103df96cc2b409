"""[53], [54]: halls."""

import unittest

from noneleft.books import Book
from noneleft.court import is_safe, least_wrong, unsafe_paper
from noneleft.errors import InvalidBook, InvalidCrowd, InvalidRun, LeftError, Refused
from noneleft.hall import Hall
from noneleft.tables import is_nought, name_of
from refusals import Refusals
from samples import BOOKS, CLOCKS, NONE, PAIRS, UNSAFE
from test_court import SAFE, WRONG
from trial import NO_NUMBERS, NO_SEQUENCES, Alike, Trial, added, within, without

FOURS = Book(2, [(0, 2), (2, 1), (4, 0)])


class Plain:
    """A hall that keeps everything that ever was."""

    def __init__(self, book):
        nobody = (0,) * book.kinds
        self.states = [(book, nobody, nobody, ())]

    def now(self):
        return self.states[-1]

    def do(self, deed, value):
        """Do a deed; returns what is told, or an error with its number."""
        book, waiting, arrived, gone = self.now()
        if deed == "come":
            self.states.append((book, added(waiting, value), added(arrived, value), gone))
        elif deed == "go":
            if value >= len(book.batches):
                return InvalidRun, 0
            if not within(book.batches[value], waiting):
                return Refused, 0
            self.states.append((book, without(waiting, book.batches[value]), arrived, gone + (value,)))
        elif deed == "go_all":
            run = ()
            while any(within(batch, waiting) for batch in book.batches):
                at = [within(batch, waiting) for batch in book.batches].index(True)
                run, waiting = run + (at,), without(waiting, book.batches[at])
            self.states.append((book, waiting, arrived, gone + run))
            return run
        elif deed == "change":
            self.states.append((value, waiting, waiting, ()))
        else:
            if len(self.states) == 1:
                return False
            self.states.pop()
            return True
        return None


def seen(hall):
    return hall.book, hall.waiting(), hall.arrived(), hall.gone()


def deeds(kinds, books, many, seed):
    """A long row of deeds, mixed, but the same each time."""
    found = []
    for _ in range(many):
        seed = (seed * 1103515245 + 12345) % 2 ** 31
        draw = seed >> 8
        kind = draw % 11
        if kind < 3:
            found.append(("come", tuple((draw >> (4 + 2 * at)) % 4 for at in range(kinds))))
        elif kind < 7:
            found.append(("go", (draw >> 5) % 4))
        elif kind < 8:
            found.append(("go_all", None))
        elif kind < 9:
            found.append(("change", books[(draw >> 5) % len(books)]))
        else:
            found.append(("undo", None))
    return found


def done(hall, deed, value):
    """Do the deed; returns what is told, or the class and number of the error."""
    method = getattr(hall, deed)
    try:
        return method(value) if deed in ("come", "go", "change") else method()
    except LeftError as error:
        return type(error), error.at


class Deeds(Refusals):

    def test_first_empty(self):
        for book in BOOKS:
            hall = Hall(book)
            self.assertIs(hall.book, book)
            self.same((hall.waiting(), hall.arrived(), hall.gone(), len(hall)), ((0,) * book.kinds, (0,) * book.kinds, (), 0))
            self.assertIs(hall.undo(), False)
        self.assertEqual(Hall(book=PAIRS).book, PAIRS)

    def test_an_example(self):
        hall = Hall(UNSAFE)
        self.assertIsNone(hall.come([2, 2]))
        self.assertIsNone(hall.go(batch=1))
        self.same((hall.waiting(), hall.arrived(), hall.gone(), len(hall)), ((0, 2), (2, 2), (1,), 2))
        self.same(hall.go_all(), ())
        self.same((hall.waiting(), hall.gone(), len(hall)), ((0, 2), (1,), 3))
        self.assertIsNone(hall.come(crowd=(5, 1)))
        self.same(hall.go_all(), (0, 0, 0, 1))
        self.same((hall.waiting(), hall.arrived(), hall.gone(), len(hall)), ((0, 0), (7, 3), (1, 0, 0, 0, 1), 5))
        self.assertIsNone(hall.come((3, 0)))
        self.assertIsNone(hall.change(book=PAIRS))
        self.same((hall.waiting(), hall.arrived(), hall.gone(), len(hall)), ((3, 0), (3, 0), (), 7))
        self.assertIs(hall.book, PAIRS)
        self.assertIsNone(hall.go(2))
        self.same((hall.waiting(), hall.arrived(), hall.gone()), ((0, 0), (3, 0), (2,)))
        for _ in range(2):
            self.assertIs(hall.undo(), True)
        self.assertIs(hall.book, UNSAFE)
        self.same((hall.waiting(), hall.arrived(), hall.gone(), len(hall)), ((3, 0), (10, 3), (1, 0, 0, 0, 1), 6))
        while len(hall):
            self.assertIs(hall.undo(), True)
        self.assertIs(hall.undo(), False)
        self.same((hall.waiting(), hall.arrived(), hall.gone()), ((0, 0), (0, 0), ()))

    def test_deeds_against_a_plain_hall(self):
        for seed, books in enumerate(((PAIRS, UNSAFE), (NONE, CLOCKS, FOURS, UNSAFE), (Book(1, [(2,), (3,)]), Book(1, [(2,)]), Book(1, [])),
                                      (Book(3, [(1, 1, 0), (0, 1, 1), (1, 0, 1)]), Book(3, [(2, 0, 0), (0, 2, 0), (0, 0, 2), (1, 1, 0)])))):
            hall, plain = Hall(books[0]), Plain(books[0])
            for deed, value in deeds(books[0].kinds, books, 400, seed):
                wanted = plain.do(deed, value)
                self.assertEqual(done(hall, deed, list(value) if deed == "come" else value), wanted)
                self.same(seen(hall)[1:], plain.now()[1:])
                self.assertIs(hall.book, plain.now()[0])
                self.assertEqual(len(hall), len(plain.states) - 1)
            while plain.do("undo", None):
                self.assertIs(hall.undo(), True)
                self.same(seen(hall)[1:], plain.now()[1:])
            self.assertIs(hall.undo(), False)

    def test_two_halls_beside_each_other(self):
        one, other = Hall(PAIRS), Hall(PAIRS)
        one.come((3, 3))
        one.go(0)
        self.same((other.waiting(), other.gone(), len(other)), ((0, 0), (), 0))
        other.come((1, 1))
        other.go_all()
        self.same((one.waiting(), one.gone(), len(one)), ((3, 0), (0,), 2))
        self.assertFalse(one == other)
        self.assertFalse(one == PAIRS or PAIRS == one or one == (3, 0))

    def test_what_is_handed_in_and_told(self):
        hall, crowd = Hall(PAIRS), [3, 3]
        hall.come(crowd)
        crowd[0] = 7
        crowd.append(1)
        self.same(hall.waiting(), (3, 3))
        before = hall.gone(), hall.waiting(), hall.arrived()
        hall.go_all()
        self.same(before, ((), (3, 3), (3, 3)))

    def test_changing_to_an_equal_book(self):
        hall = Hall(PAIRS)
        hall.come((4, 4))
        hall.go(1)
        again = Book(2, [(3, 0), (1, 1), (0, 3)])
        hall.change(again)
        self.assertIs(hall.book, again)
        self.same((hall.waiting(), hall.arrived(), hall.gone(), len(hall)), ((3, 3), (3, 3), (), 3))
        hall.go(0)
        hall.undo()
        hall.undo()
        self.assertIs(hall.book, PAIRS)
        self.same((hall.waiting(), hall.arrived(), hall.gone(), len(hall)), ((3, 3), (4, 4), (1,), 2))
        hall.go(1)
        self.same(hall.gone(), (1, 1))

    def test_large_crowds(self):
        hall = Hall(PAIRS)
        hall.come((10000, 10 ** 30))
        hall.come((0, 2))
        for _ in range(30):
            hall.go(1)
        self.same(hall.waiting(), (9970, 10 ** 30 - 28))
        hall = Hall(Book(2, [(1, 1), (2, 0)]))
        hall.come((20000, 0))
        self.same(hall.go_all(), (1,) * 10000)
        self.same(hall.gone(), (1,) * 10000)
        hall.undo()
        for _ in range(10000):
            hall.go(1)
        self.same((hall.waiting(), len(hall)), ((0, 0), 10001))
        for _ in range(10000):
            hall.undo()
        self.same((hall.waiting(), hall.gone(), len(hall)), ((20000, 0), (), 1))

    def test_refusals(self):
        hall = Hall(PAIRS)
        hall.come((2, 1))
        hall.go(1)
        before = seen(hall)
        for value in NO_SEQUENCES:
            self.refused(InvalidCrowd, 2, hall.come, value)
        for value in NO_NUMBERS:
            self.refused(InvalidCrowd, 1, hall.come, (1, value))
            self.refused(InvalidCrowd, 0, hall.come, [value, value])
            self.refused(InvalidRun, 0, hall.go, value)
        for crowd in ((), (1,), (1, 1, 1)):
            self.refused(InvalidCrowd, 2, hall.come, crowd)
        for value in (3, 4, 10 ** 20):
            self.refused(InvalidRun, 0, hall.go, value)
        for value in (0, 1, 2):
            self.refused(Refused, 0, hall.go, value)
        for value in (None, True, 2, "", (), [], (2, ()), Alike(), Hall(PAIRS), Book(1, []), Book(3, []), Book(3, [(1, 1, 1)]), Book):
            self.refused(InvalidBook, 0, hall.change, value)
        self.same(seen(hall)[1:], before[1:])
        self.assertIs(hall.book, before[0])
        self.assertEqual(len(hall), 2)


class Within(Refusals):

    def work(self, hall):
        hall.come((2, 2))
        hall.go_all()
        hall.undo()
        hall.go(1)
        hall.change(FOURS)
        hall.come([4, 1])
        return hall.go_all(), seen(hall)[1:], len(hall)

    def test_all_is_as_before(self):
        for before in ((), (("come", (3, 2)),), (("come", (3, 2)), ("go", 1), ("change", UNSAFE), ("come", (1, 1)), ("go", 0))):
            hall, other = Hall(PAIRS), Hall(PAIRS)
            for deed, value in before:
                done(hall, deed, value)
                done(other, deed, value)
            kept = seen(hall), len(hall)
            self.assertEqual(hall.within(self.work), self.work(other))
            self.assertEqual((seen(hall), len(hall)), kept)
            self.assertIs(hall.book, kept[0][0])
            # What was done before can be undone as if nothing had been between.
            plain = Plain(PAIRS)
            for deed, value in before:
                plain.do(deed, value)
            for _ in before:
                plain.do("undo", None)
                self.assertIs(hall.undo(), True)
                self.same(seen(hall)[1:], plain.now()[1:])
            self.assertIs(hall.undo(), False)

    def test_what_is_returned(self):
        hall = Hall(PAIRS)
        self.assertIs(hall.within(work=lambda same: same), hall)
        self.assertIsNone(hall.within(lambda same: same.come((1, 1))))
        self.same(hall.within(lambda same: (same.come((3, 3)), same.go_all())), (None, (0, 2)))
        found = [1]
        self.assertIs(hall.within(lambda same: found), found)
        self.same((hall.waiting(), len(hall)), ((0, 0), 0))

    def test_errors_are_passed_on(self):
        hall = Hall(PAIRS)
        hall.come((1, 1))

        def work(same):
            same.come((5, 5))
            same.go_all()
            same.change(UNSAFE)
            same.go(7)

        self.refused(InvalidRun, 0, hall.within, work)
        self.same((hall.book == PAIRS, hall.waiting(), hall.arrived(), hall.gone(), len(hall)), (True, (1, 1), (1, 1), (), 1))

        class Odd(BaseException):
            pass

        def stop(same):
            same.go(1)
            raise Odd

        with self.assertRaises(Odd):
            hall.within(stop)
        self.same((hall.waiting(), hall.gone(), len(hall)), ((1, 1), (), 1))
        with self.assertRaises(ZeroDivisionError):
            hall.within(lambda same: same.come((1, 0)) or 1 // 0)
        self.same((hall.waiting(), len(hall)), ((1, 1), 1))

    def test_within_each_other(self):
        hall = Hall(PAIRS)
        hall.come((3, 3))

        def deeper(same):
            same.go(0)
            return same.within(lambda again: (again.go(2), seen(again)[1:], again.within(self.work)[2], len(again))), seen(same)[1:], len(same)

        self.same(hall.within(deeper), ((None, ((0, 0), (3, 3), (0, 2)), 8, 3), ((3, 0), (3, 3), (0,)), 2))
        self.same((hall.waiting(), hall.gone(), len(hall)), ((3, 3), (), 1))
        self.assertIs(hall.undo(), True)
        self.same((hall.waiting(), len(hall)), ((0, 0), 0))

    def test_undoing_what_the_work_did(self):
        hall = Hall(PAIRS)
        hall.come((3, 3))
        hall.go(1)

        def work(same):
            same.go(1)
            same.change(UNSAFE)
            same.undo()
            same.undo()
            return seen(same)[1:], len(same)

        self.same(hall.within(work), (((2, 2), (3, 3), (1,)), 2))
        self.same((hall.waiting(), hall.gone(), len(hall)), ((2, 2), (1,), 2))


class Questions(Refusals):

    def test_an_example(self):
        hall = Hall(UNSAFE)
        hall.come((2, 2))
        self.same((hall.name(), hall.is_stuck(), hall.could_clear(), hall.is_even(), hall.lost()), ((0, 0), False, True, True, False))
        hall.go(1)
        self.same((hall.name(), hall.is_stuck(), hall.could_clear(), hall.is_even(), hall.lost()), ((0, 0), True, True, True, True))
        hall.come((1, 0))
        self.same((hall.name(), hall.is_stuck(), hall.could_clear(), hall.is_even(), hall.lost()), ((0, 1), False, False, False, False))
        hall.change(PAIRS)
        self.same((hall.name(), hall.is_stuck(), hall.could_clear(), hall.is_even(), hall.lost()), ((0, 1), False, False, False, False))

    def test_after_each_deed(self):
        lost = 0
        for seed, books in enumerate(((PAIRS, UNSAFE), (UNSAFE, CLOCKS), (Book(1, [(2,), (3,)]), Book(1, [(4,), (6,)])),
                                      (Book(3, [(1, 1, 0), (0, 1, 1), (1, 0, 1)]),), (Book(2, [(2, 1), (1, 2), (0, 4)]), NONE))):
            hall = Hall(books[0])
            trials = [(book, Trial(book)) for book in books]
            for deed, value in deeds(books[0].kinds, books, 300, seed + 7):
                if deed == "come" and sum(hall.arrived()) + sum(value) > 12:
                    # At most 12 have come, of whom some may be let go, and the count begun anew.
                    hall.go_all()
                    hall.change(hall.book)
                    continue
                done(hall, deed, value)
                lost += self.ask(hall, trials)
        self.assertGreater(lost, 20)

    def ask(self, hall, trials):
        """Ask all there is; returns whether somebody is lost."""
        trial = [trial for book, trial in trials if book is hall.book][0]
        waiting, arrived = hall.waiting(), hall.arrived()
        self.same(hall.name(), name_of(hall.book, waiting))
        self.same(hall.name(), name_of(hall.book, arrived))
        self.assertIs(hall.is_stuck(), trial.is_stuck(waiting))
        self.assertIs(hall.could_clear(), trial.clears(arrived))
        self.assertIs(hall.is_even(), is_nought(hall.book, arrived))
        lost = trial.clears(arrived) and not trial.clears(waiting)
        self.assertIs(hall.lost(), lost)
        if is_safe(hall.book):
            self.assertFalse(lost)
            if hall.is_stuck() and hall.is_even():
                self.assertFalse(any(waiting))
        return lost

    def test_any_other_book_loses_somebody(self):
        for book in WRONG:
            crowd, _, run = unsafe_paper(book)
            hall = Hall(book)
            hall.come(crowd)
            for at in run:
                hall.go(at)
            if sum(crowd) <= 12:
                self.assertIs(hall.lost(), True)
            self.assertTrue(hall.is_stuck() and hall.is_even() and any(hall.waiting()))
            self.assertEqual(crowd, least_wrong(book))
        for book in SAFE:
            self.assertIsNone(unsafe_paper(book))


if __name__ == "__main__":
    unittest.main()
