"""Books that are made of a naming: their batches are the least crowds that come to nought by it."""

from math import gcd, lcm

from noneleft.books import Book, least_batches
from noneleft.court import is_safe
from noneleft.linear import greatest
from noneleft.naming import checked_naming, is_some_naming, naming, table_of, told
from noneleft.rows import is_within, less, nought, plus, unit, weighed
from noneleft.tables import signed_table

# Up to so many batches of so many members a book is quickly known to be safe, whatever its names.
FEW_BATCHES = 8
FEW_MEMBERS = 6


def told_book(kinds, value):
    """The book of all least crowds that come to nought by the naming."""
    pairs = checked_naming(kinds, value)
    balances = _balances(pairs)
    least = []
    crowds = [nought(kinds)]
    while crowds:
        # All of these are of one size, so none of them is within another one.
        larger = _larger(kinds, balances, crowds)
        larger = [crowd for crowd in larger if not any([is_within(other, crowd) for other in least])]
        crowds = [crowd for crowd in larger if any(told(pairs, crowd))]
        least.extend([crowd for crowd in larger if not any(told(pairs, crowd))])
    return Book(kinds, least)


def _balances(pairs):
    """The hours of the balances of a naming."""
    return [hours for modulus, hours in pairs if modulus == 0]


def _larger(kinds, balances, crowds):
    """The crowds with one more of a kind that brings the balances, where they are not even, back to some degree.

    What is still missing to a crowd that comes to nought has such a kind, and by such kinds alone the
    balances cannot go far, so that the search ends.
    """
    found = {}
    for crowd in crowds:
        sums = [weighed(crowd, hours) for hours in balances]
        for kind in range(kinds):
            if not any(sums) or weighed(sums, [hours[kind] for hours in balances]) < 0:
                found[plus(crowd, unit(kinds, kind))] = True
    return list(found)


def is_telling(book, value):
    """Tell whether any value is a naming by which this is the told book."""
    if not is_some_naming(book.kinds, value) or least_batches(book) != book:
        return False
    bare = tuple([kind for kind in range(book.kinds) if not any([batch[kind] for batch in book.batches])])
    if idle_kinds(book.kinds, value) != bare:
        return False
    # Balances that keep the idle kinds out, so that just the rows without them are compared.
    others = tuple([(0, unit(book.kinds, kind)) for kind in bare])
    if table_of(book.kinds, value + others) != signed_table(book):
        return False
    # Now all that comes to nought are signed sums, so it is the told book exactly if it is safe.
    if len(book.batches) <= FEW_BATCHES and all([sum(batch) <= FEW_MEMBERS for batch in book.batches]):
        return is_safe(book)
    return told_book(book.kinds, value) == book


def telling(book):
    """Some naming by which this is the told book, or None."""
    pairs = naming(book)
    return pairs if is_telling(book, pairs) else None


def idle_kinds(kinds, value):
    """All kinds that no crowd has that comes to nought."""
    numbers = _balanced(kinds, checked_naming(kinds, value))[1]
    return tuple([kind for kind in range(kinds) if numbers[kind] == 0])


def standing_crowd(kinds, value):
    """Some crowd that comes to nought and has each kind that is not idle."""
    pairs = checked_naming(kinds, value)
    numbers = _balanced(kinds, pairs)[1]
    crowd = plus(numbers[:kinds], numbers[kinds:])
    # The balances are even; taken so often, the clocks are, too.
    turn = 1
    for (modulus, _), hour in zip(pairs, told(pairs, crowd)):
        if modulus > 0:
            turn = lcm(turn, modulus // gcd(modulus, hour))
    return tuple([turn * number for number in crowd])


def weights(kinds, value):
    """Some integer for each pair by which the hours of idle kinds sum to more than 0, those of others to 0."""
    pairs = checked_naming(kinds, value)
    prices = _balanced(kinds, pairs)[2]
    many = len(_balances(pairs))
    found = []
    at = 0
    for modulus, _ in pairs:
        if modulus > 0:
            found.append(0)
        else:
            found.append(prices[at] - prices[many + at])
            at += 1
    return tuple(found)


def _balanced(kinds, pairs):
    """A crowd that evens all balances, with each kind that is not idle; and prices that show that others are.

    Tells (bottom, numbers, prices) as `greatest` does. The crowd is the sum of both halves of the
    numbers, of which the first ones are at most 1, divided by the bottom: their sum is greatest if they
    are 1 for each kind that can be there at all. The first prices are for the balances, too much of
    them, then too little.
    """
    balances = _balances(pairs)
    rows = [hours + hours for hours in balances]
    rows.extend([less(nought(2 * kinds), hours + hours) for hours in balances])
    rows.extend([unit(2 * kinds, kind) for kind in range(kinds)])
    limits = nought(2 * len(balances)) + (1,) * kinds
    return greatest(rows, limits, (1,) * kinds + nought(kinds))
