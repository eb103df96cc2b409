"""[57], [58]: desks."""

import unittest

from noneleft.books import Book
from noneleft.court import least_wrong
from noneleft.desk import Desk
from noneleft.errors import InvalidBook, InvalidCommand, InvalidRun, LeftError, Refused
from noneleft.hall import Hall
from refusals import Refusals
from samples import PAIRS, UNSAFE
from test_court import SAFE, WRONG
from test_hall import deeds, done, seen
from trial import Alike

WORDS = ("all", "waiting", "arrived", "gone", "name", "safe", "lost", "undo")
# No commands, whatever hall is there.
NO_COMMANDS = (None, True, 0, 1, 2.5, b"all", ("all",), ["all"], {}, Alike(), Book, "", " ", "  ", "al", "All", "ALL", "all ", " all", "all\n", "\nall",
               "all\nall", "all\t", "\tall", "all all", "all 0", "waiting 1", "arrived 0", "gone 0", "name 1", "safe 1", "lost 0", "undo 1", "undo undo",
               "none", "ok", "book", "book ", " book 1", "book  1", "book 0", "book 00", "book 01", "book -1", "book +1", "book 1.0", "book x",
               "book 1 ", "book 1 01", "book 1 -2", "book 2 1", "book 2 1 1 2", "book 3 1 1 1 1", "book 10000", "book 1 10000", "book 1 2\n",
               "book 1\n2", "book 1,2", "book 1 2 x", "book 0 0", "book two", "book 1 \u00b2", "book 1 \u0661", "come", "come ", "come x", "come 01",
               "come  1", "come 1 1 ", "come -1 1", "come 1 10000", "come 1 1\n", "come 1 1.0", "come 1 00", "come 0x1 1", "come 1_0 1", "come \u0661 1",
               "go", "go ", "go x", "go 00", "go 01", "go -1", "go 0 0", "go 0\n", "go 10000", "go  0", "come 1 1 1", "come 1", "change", "change 1",
               "is_stuck", "within", "say all")


def started(book):
    desk = Desk()
    desk.say(" ".join(["book", str(book.kinds)] + [str(number) for batch in book.batches for number in batch]))
    return desk


def words(numbers):
    return " ".join(str(number) for number in numbers) or "none"


class Saying(Refusals):

    def told(self, desk, *pairs):
        for command, answer in pairs:
            self.same(desk.say(command), answer)

    def test_an_example(self):
        desk = Desk()
        self.assertIsNone(desk.hall)
        self.same(desk.say(command="book 2 1 1 2 0"), "ok")
        self.told(desk, ("waiting", "0 0"), ("arrived", "0 0"), ("gone", "none"), ("all", "none"), ("undo", "ok"), ("undo", "nothing"),
                  ("come 2 2", "ok"), ("safe", "no 2 2"), ("lost", "no"), ("go 1", "ok"), ("lost", "yes"), ("all", "none"), ("waiting", "0 2"),
                  ("arrived", "2 2"), ("gone", "1"), ("name", "0 0"), ("come 3 0", "ok"), ("name", "0 1"), ("all", "0 0"), ("gone", "1 0 0"),
                  ("waiting", "1 0"), ("undo", "ok"), ("gone", "1"), ("waiting", "3 2"))
        self.assertIs(type(desk.hall), Hall)
        self.assertEqual(desk.hall.book, UNSAFE)
        self.assertEqual(len(desk.hall), 4)

    def test_books(self):
        desk = Desk()
        self.told(desk, ("book 3", "ok"), ("waiting", "0 0 0"), ("all", "none"), ("safe", "yes"))
        self.assertEqual(desk.hall.book, Book(3, []))
        before = desk.hall
        self.told(desk, ("book 1 6 4", "ok"), ("safe", "no 6"), ("undo", "nothing"))
        self.assertEqual(desk.hall.book, Book(1, [(4,), (6,)]))
        self.assertIsNot(desk.hall, before)
        self.told(desk, ("book 2 3 0 0 3 1 1", "ok"), ("safe", "yes"), ("come 9999 1", "ok"), ("waiting", "9999 1"))
        self.assertEqual(desk.hall.book, PAIRS)
        self.told(desk, ("book 1 9999", "ok"), ("come 0", "ok"), ("arrived", "0"))
        self.assertEqual(desk.hall.book, Book(1, [(9999,)]))
        self.told(desk, ("book 9999", "ok"))
        self.assertEqual(desk.hall.book, Book(9999, []))

    def test_names_below_nought(self):
        desk = started(Book(2, [(1, 1)]))
        self.told(desk, ("come 2 0", "ok"), ("name", "0 -2"), ("come 0 12", "ok"), ("name", "0 10"))

    def test_against_a_hall(self):
        for seed, book in enumerate((PAIRS, UNSAFE, Book(1, [(2,), (3,)]), Book(3, [(1, 1, 0), (0, 1, 1), (1, 0, 1)]), Book(2, [(2, 1), (1, 2), (0, 4)]))):
            desk, hall = started(book), Hall(book)
            for deed, value in deeds(book.kinds, (book,), 150, seed + 3):
                if deed != "change":
                    self.try_deed(desk, hall, deed, value)
                    self.told(desk, ("waiting", words(hall.waiting())), ("arrived", words(hall.arrived())), ("gone", words(hall.gone())),
                              ("name", words(hall.name())))
                    self.assertEqual((seen(desk.hall), len(desk.hall)), (seen(hall), len(hall)))
                    if sum(hall.arrived()) <= 12:
                        self.told(desk, ("lost", "yes" if hall.lost() else "no"))

    def try_deed(self, desk, hall, deed, value):
        wanted = done(hall, deed, value)
        command = {"come": f"come {words(value)}" if deed == "come" else None, "go": f"go {value}", "go_all": "all", "undo": "undo"}[deed]
        if isinstance(wanted, tuple) and wanted and isinstance(wanted[0], type):
            self.refused(wanted[0], wanted[1], desk.say, command)
        elif deed == "go_all":
            self.told(desk, (command, words(wanted)))
        else:
            self.told(desk, (command, "nothing" if wanted is False else "ok"))

    def test_safe(self):
        for book in SAFE:
            self.told(started(book), ("safe", "yes"))
        for book in WRONG:
            self.told(started(book), ("safe", "no " + words(least_wrong(book))))

    def test_two_desks(self):
        one, other = started(PAIRS), started(PAIRS)
        self.told(one, ("come 3 3", "ok"), ("go 1", "ok"))
        self.told(other, ("waiting", "0 0"), ("gone", "none"), ("undo", "nothing"))
        self.assertIsNot(one.hall, other.hall)
        self.assertIsNone(Desk().hall)

    def test_a_hall_that_is_used_beside(self):
        desk = started(PAIRS)
        desk.hall.come((3, 4))
        desk.hall.change(UNSAFE)
        self.told(desk, ("waiting", "3 4"), ("all", "0 0 0"), ("safe", "no 2 2"))


class Wrong(Refusals):

    def wrong(self, desk, command):
        with self.assertRaises(InvalidCommand, msg=command) as caught:
            desk.say(command)
        self.assertIs(type(caught.exception), InvalidCommand)

    def test_no_commands(self):
        desk = started(PAIRS)
        desk.say("come 4 4")
        desk.say("go 1")
        hall, before = desk.hall, (seen(desk.hall), len(desk.hall))
        for command in NO_COMMANDS:
            self.wrong(desk, command)
            self.assertIs(desk.hall, hall)
            self.assertEqual((seen(hall), len(hall)), before)

    def test_without_a_hall(self):
        desk = Desk()
        for command in NO_COMMANDS + WORDS + ("come 1", "come 1 1", "go 0", "go 7"):
            self.wrong(desk, command)
            self.assertIsNone(desk.hall)

    def test_counts_of_numbers(self):
        desk = started(Book(3, [(1, 1, 1)]))
        for command in ("come 1", "come 1 1", "come 1 1 1 1", "go 0 0", "go", "come"):
            self.wrong(desk, command)
        self.same(desk.say("come 1 1 1"), "ok")
        self.same(desk.say("go 0"), "ok")

    def test_errors_of_the_functions(self):
        desk = started(PAIRS)
        desk.say("come 2 0")
        hall, before = desk.hall, (seen(desk.hall), len(desk.hall))
        for error, at, command in ((InvalidRun, 0, "go 3"), (InvalidRun, 0, "go 9999"), (Refused, 0, "go 0"), (Refused, 0, "go 2"),
                                   (InvalidBook, 1, "book 1 0"), (InvalidBook, 2, "book 2 1 1 1 1"), (InvalidBook, 2, "book 2 0 1 0 0"),
                                   (InvalidBook, 3, "book 1 2 3 2 0")):
            self.refused(error, at, desk.say, command)
            self.assertIs(desk.hall, hall)
            self.assertEqual((seen(hall), len(hall)), before)
        empty = Desk()
        self.refused(InvalidBook, 1, empty.say, "book 2 0 0")
        self.assertIsNone(empty.hall)

    def test_all_errors_are_of_the_package(self):
        self.assertTrue(issubclass(InvalidCommand, LeftError))
        self.assertFalse(hasattr(InvalidCommand(), "at"))


if __name__ == "__main__":
    unittest.main()
