"""[9]: books as texts."""

import unittest

from noneleft.books import Book
from noneleft.booktexts import book_text, read_book
from noneleft.errors import InvalidText
from refusals import Refusals
from trial import NO_NUMBERS, NO_SEQUENCES, unit

TEXTS = (
    (Book(2, [(3, 0), (1, 1), (0, 3)]), "kinds 2\n0 3\n1 1\n3 0"),
    (Book(1, []), "kinds 1"),
    (Book(6, []), "kinds 6"),
    (Book(1, [(10,), (9,), (99,)]), "kinds 1\n9\n10\n99"),
    (Book(3, [(0, 0, 1), (0, 10, 0), (0, 9, 98)]), "kinds 3\n0 0 1\n0 9 98\n0 10 0"),
    (Book(6, [(1, 1, 1, 1, 1, 1), (0, 0, 0, 0, 0, 8)]), "kinds 6\n0 0 0 0 0 8\n1 1 1 1 1 1"),
    (Book(10, [(1,) * 10]), "kinds 10\n1 1 1 1 1 1 1 1 1 1"),
)


class Texts(Refusals):

    def test_texts(self):
        for book, text in TEXTS:
            self.same(book_text(book), text)
            self.same(book_text(book=book), text)

    def test_larger_numbers_are_written_too(self):
        self.same(book_text(Book(2, [(100, 0), (0, 12345)])), "kinds 2\n0 12345\n100 0")

    def test_books(self):
        for book, text in TEXTS:
            self.assertEqual(read_book(text), book)
            self.assertEqual(read_book(text=text), book)
            self.assertIs(type(read_book(text)), Book)
            self.same(read_book(text).batches, book.batches)
            self.same(read_book(text).kinds, book.kinds)

    def test_twelve_batches_there_and_back(self):
        six = [unit(6, kind) for kind in range(6)]
        book = Book(6, six + [tuple(8 * number for number in batch) for batch in six])
        self.assertEqual(book_text(book).count("\n"), 12)
        self.assertEqual(read_book(book_text(book)), book)

    def test_no_string(self):
        for text in NO_SEQUENCES + NO_NUMBERS + (["kinds 1"], ("kinds 1",), b"kinds 1", Book(1, [])):
            if not isinstance(text, str):
                self.refused(InvalidText, 0, read_book, text)

    def test_wrong_first_lines(self):
        for line in ("", " ", "kinds", "kinds ", "kinds 0", "kinds 00", "kinds 02", "kinds 100", "kinds -1", "kinds +2",
                     "kinds  2", " kinds 2", "kinds 2 ", "kind 2", "Kinds 2", "kinds 2 2", "2", "kinds two", "kinds\t2",
                     "kinds 2.", "kinds 2\r", "kinds \u0662", "kinds \u00b2", "kinds 1_0", "kinds2", "kinds\u00a02"):
            self.refused(InvalidText, 0, read_book, line)
            self.refused(InvalidText, 0, read_book, line + "\n1 1")
            self.refused(InvalidText, 0, read_book, line + "\n1 1\nwrong")

    def test_wrong_lines(self):
        for line in ("", " ", "1", "1 1 1", "0 0", "01 1", "1 00", "1  1", " 1 1", "1 1 ", "100 1", "1 100", "-1 2", "1 -0",
                     "+1 2", "1 1.0", "1,1", "1\t1", "1 x", "(1, 1)", "1 1\r", "1 \u0661", "\u00b9 1", "1_1 1", "kinds 2",
                     "1 1\x0b", "1\u00a01", "1 1\u2028"):
            self.refused(InvalidText, 1, read_book, "kinds 2\n" + line)
            self.refused(InvalidText, 2, read_book, "kinds 2\n0 1\n" + line)
            self.refused(InvalidText, 3, read_book, "kinds 2\n0 1\n0 2\n" + line + "\n2 0\n" + line)

    def test_no_newline_at_the_end(self):
        for book, text in TEXTS:
            self.refused(InvalidText, len(book.batches) + 1, read_book, text + "\n")

    def test_the_order_of_batches(self):
        self.refused(InvalidText, 2, read_book, "kinds 2\n1 1\n1 1")
        self.refused(InvalidText, 3, read_book, "kinds 2\n1 1\n3 0\n1 2")
        self.refused(InvalidText, 2, read_book, "kinds 1\n10\n9\n9")
        self.refused(InvalidText, 2, read_book, "kinds 2\n0 2\n0 1\nwrong")
        self.refused(InvalidText, 4, read_book, "kinds 2\n0 1\n0 2\n5 0\n4 9\n6 0")

    def test_the_first_wrong_line(self):
        self.refused(InvalidText, 1, read_book, "kinds 2\nwrong\n1 1\n1 1")
        self.refused(InvalidText, 2, read_book, "kinds 2\n1 1\n1 1\nwrong")


if __name__ == "__main__":
    unittest.main()
