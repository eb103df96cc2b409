"""How tests ask for errors."""

import unittest


class Refusals(unittest.TestCase):

    def refused(self, error, at, function, *arguments, **named):
        """The call raises an error of just this class, which keeps just this number."""
        with self.assertRaises(error, msg=(function, arguments, named)) as seen:
            function(*arguments, **named)
        self.assertIs(type(seen.exception), error, (function, arguments, named))
        self.assertEqual(seen.exception.at, at, (function, arguments, named))
        self.assertIs(type(seen.exception.at), int, (function, arguments, named))

    def same(self, found, wanted):
        """Equal, and of the same kinds throughout: no list for a tuple, no bool for a number."""
        self.assertEqual(found, wanted)
        self.assertEqual(repr(found), repr(wanted))
