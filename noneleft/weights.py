"""Steady books: weights of kinds by which each batch weighs 1, and how lengths of runs differ."""

from math import gcd

from noneleft.errors import InvalidQuestion
from noneleft.rows import (are_integers, are_numbers, is_integer, is_number, less, lowered, nought, stairs, step_at,
                           unit, weighed)
from noneleft.tables import checked_row, signed_table


def is_weights(book, value):
    """Tell whether any value is weights of the book."""
    if not isinstance(value, tuple) or len(value) != 2:
        return False
    bottom, numbers = value
    return is_integer(bottom) and bottom >= 1 and are_integers(numbers, book.kinds)


def lowest(numerator, denominator):
    """The fraction in lowest terms; the denominator is a number from 1 on."""
    common = gcd(numerator, denominator)
    return numerator // common, denominator // common


def weight_of(book, weights, row):
    """The weight of the row, as a fraction in lowest terms."""
    if not is_weights(book, weights):
        raise InvalidQuestion(0)
    bottom, numbers = weights
    return lowest(weighed(checked_row(book.kinds, row), numbers), bottom)


def is_steady(book):
    """Tell whether any two runs that clear the same crowd are equally long."""
    return length_step(book) == 0


def steady_weights(book):
    """Some weights by which each batch weighs 1, or None."""
    steps, rest = _counted_table(book)
    if any([row[-1] for row in rest]):
        return None
    # From the last step to the first one, each gives one more kind its weight; other kinds weigh 0.
    bottom, numbers = 1, nought(book.kinds)
    for row in reversed(steps):
        at = step_at(row)
        missing = row[-1] * bottom - weighed(row, numbers)
        numbers = tuple([missing if kind == at else number * row[at] for kind, number in enumerate(numbers)])
        bottom = bottom * row[at]
    common = bottom
    for number in numbers:
        common = gcd(common, number)
    return bottom // common, tuple([number // common for number in numbers])


def are_steady_weights(book, value):
    """Tell whether any value is weights by which each batch weighs 1."""
    return is_weights(book, value) and all([weighed(batch, value[1]) == value[0] for batch in book.batches])


def _counted_table(book):
    """The table in stairs with how many batches are taken for each row behind it, and what is left of other rows."""
    return stairs([batch + (1,) for batch in book.batches], book.kinds)


def length_step(book):
    """The greatest number of which all differences of lengths of runs that clear the same crowd are multiples."""
    step = 0
    for row in _counted_table(book)[1]:
        step = gcd(step, row[-1])
    return step


def step_counts(book):
    """Some pair of counts with the same crowd whose lengths differ by the length step, or None if that is 0."""
    many = len(book.batches)
    marked = [batch + (1,) + unit(many, at) for at, batch in enumerate(book.batches)]
    for row in stairs(marked, book.kinds + 1)[0]:
        if not any(row[:book.kinds]):
            return apart(row[book.kinds + 1:])
    return None


def apart(numbers):
    """Two tuples of numbers, as small as can be, the first of which less the second is this one."""
    return tuple([max(number, 0) for number in numbers]), tuple([max(-number, 0) for number in numbers])


def unlike_counts(book):
    """Some pair of counts with the same crowd and unlike lengths, or None."""
    return step_counts(book)


def crowd_of_counts(book, counts):
    """The crowd that the batches clear together if each goes off so often."""
    crowd = nought(book.kinds)
    for batch, number in zip(book.batches, counts):
        crowd = less(crowd, batch, -number)
    return crowd


def are_counts(book, value):
    """Tell whether any value is counts of the book."""
    return are_numbers(value, len(book.batches))


def are_unlike_counts(book, value):
    """Tell whether any value is a pair of counts with the same crowd and unlike lengths."""
    if not isinstance(value, tuple) or len(value) != 2 or not all([are_counts(book, counts) for counts in value]):
        return False
    one, other = value
    return sum(one) != sum(other) and crowd_of_counts(book, one) == crowd_of_counts(book, other)


def step_hours(book):
    """Some hours for the length step of the book."""
    step = length_step(book)
    hours = [row[-1] for row in _counted_table(book)[0]]
    return tuple([hour % step if step > 0 else hour for hour in hours])


def are_step_hours(book, step, value):
    """Tell whether any value is hours for the step."""
    if not is_number(step):
        raise InvalidQuestion(0)
    table = signed_table(book)
    if not are_integers(value, len(table)):
        return False
    marked = [row + (hour,) for row, hour in zip(table, value)]
    # Behind what is left of a batch, which is nought, stands then by how much its hours miss 1.
    missing = [lowered(marked, batch + (1,))[-1] for batch in book.batches]
    return all([number % step == 0 if step > 0 else number == 0 for number in missing])
