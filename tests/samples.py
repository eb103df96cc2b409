"""Books that the tests of several points try."""

from noneleft.books import Book
from trial import unit

PAIRS = Book(2, [(0, 3), (1, 1), (3, 0)])
UNSAFE = Book(2, [(1, 1), (2, 0)])
NONE = Book(2, [])
SIX = Book(6, [unit(6, 0), (0, 1, 1, 0, 0, 0), (0, 0, 2, 0, 1, 0), (1, 1, 1, 1, 1, 1), (0, 0, 0, 2, 0, 2),
               (0, 3, 0, 0, 0, 5)])
# Clocks of moduli 2 and 4; only balances; a balance beside a clock; two balances beside two clocks.
CLOCKS = Book(2, [(4, 0), (0, 2)])
BALANCES = Book(3, [(1, 1, 1)])
MIXED = Book(2, [(2, 4)])
TWO_OF_EACH = Book(4, [(2, 0, 2, 0), (0, 4, 0, 4), (2, 4, 2, 4)])
# Six clocks, 8 ** 6 names.
EIGHTS = Book(6, [tuple(8 * entry for entry in unit(6, kind)) for kind in range(6)])
# Twelve batches, some of eight members.
TWELVE = Book(4, [(0, 0, 0, 6), (0, 0, 2, 6), (0, 0, 4, 0), (0, 2, 2, 4), (0, 6, 0, 0), (0, 8, 0, 0), (2, 0, 0, 2),
                  (2, 2, 2, 2), (4, 0, 0, 0), (4, 0, 4, 0), (6, 0, 0, 0), (6, 2, 0, 0)])

BOOKS = (PAIRS, UNSAFE, NONE, SIX, CLOCKS, BALANCES, MIXED, TWO_OF_EACH, Book(1, []), Book(6, []), Book(1, [(6,)]),
         Book(1, [(4,), (6,)]), Book(1, [(2,), (3,)]), Book(2, [(2, 1), (1, 2), (0, 4)]), Book(2, [(2, 2), (4, 0)]),
         Book(3, [(1, 2, 0), (0, 2, 4), (3, 0, 3)]), Book(3, [(0, 6, 0), (2, 0, 2)]), Book(3, [(0, 3, 1), (0, 1, 3)]),
         Book(3, [(2, 0, 0), (0, 2, 0), (0, 0, 2), (1, 1, 0)]), Book(3, [(1, 1, 0), (0, 1, 1), (1, 0, 1)]),
         Book(3, [(0, 0, 5), (0, 4, 1), (3, 3, 0), (7, 0, 1)]), Book(2, [(8, 0), (3, 5)]),
         Book(3, [(6, 0, 0), (0, 6, 0), (0, 0, 4), (2, 2, 2)]), Book(4, [(2, 0, 0, 0), (0, 3, 0, 3), (4, 3, 0, 1)]),
         # The clocks can't be read off the steps of their tables.
         Book(2, [(4, 2), (0, 3)]), Book(3, [(4, 2, 0), (0, 3, 3), (0, 0, 6)]), Book(3, [(6, 0, 0), (0, 5, 1), (0, 0, 3)]),
         Book(4, [(4, 2, 0, 2), (0, 2, 4, 0), (0, 0, 6, 2)]), Book(2, [(6, 2), (2, 5)]), Book(2, [(4, 0), (0, 6)]),
         Book(3, [(4, 2, 2), (2, 4, 2), (2, 2, 4)]), Book(3, [(2, 3, 3), (3, 2, 3), (3, 3, 2)]))
