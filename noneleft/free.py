"""Free tuples: hours of clocks of which no choice sums to nought."""

from noneleft.errors import InvalidGroup
from noneleft.rows import all_within, are_numbers, is_integer, nought


def _checked_clocks(value):
    """Any value as a tuple of moduli of clocks."""
    if not isinstance(value, tuple):
        raise InvalidGroup(0)
    for at, modulus in enumerate(value):
        if not is_integer(modulus) or modulus < 2:
            raise InvalidGroup(at)
    return value


def _are_hours(moduli, value):
    """Tell whether any value is a tuple of a number below each modulus."""
    return are_numbers(value, len(moduli)) and all([hour < modulus for hour, modulus in zip(value, moduli)])


def _moved(moduli, sums, entry):
    """Each of the sums with the entry put to it."""
    return [tuple([(hour + own) % modulus for hour, own, modulus in zip(total, entry, moduli)]) for total in sums]


def is_free(clocks, value):
    """Tell whether any value is a free tuple of the clocks."""
    moduli = _checked_clocks(clocks)
    if not isinstance(value, tuple) or not all([_are_hours(moduli, entry) for entry in value]):
        return False
    if list(value) != sorted(value):
        return False
    # The sums of all choices so far, that of no entry among them.
    nothing = nought(len(moduli))
    sums = {nothing: True}
    for entry in value:
        later = _moved(moduli, list(sums), entry)
        if nothing in later:
            return False
        for total in later:
            sums[total] = True
    return True


def longest_free(clocks):
    """Some free tuple of the clocks that is as long as any."""
    moduli = _checked_clocks(clocks)
    found = {(nought(len(moduli)),): ()}
    longer = _longer(moduli, found)
    while longer:
        found = longer
        longer = _longer(moduli, found)
    return tuple(sorted(list(found.values())[0]))


def _longer(moduli, found):
    """Free tuples with one entry more than those found, not in order.

    What can be put to a free tuple hangs on the sums of its choices alone, so one is kept for all with the
    same sums, which stand beside it, ascending.
    """
    nothing = nought(len(moduli))
    entries = all_within([modulus - 1 for modulus in moduli])
    longer = {}
    for sums, chosen in found.items():
        for entry in entries:
            later = _moved(moduli, sums, entry)
            if nothing not in later:
                longer[tuple(sorted(set(list(sums) + later)))] = chosen + (entry,)
    return longer
