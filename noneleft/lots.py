"""Lots of kinds that stand apart by a naming, and what a naming tells at all."""

from noneleft.errors import Refused
from noneleft.naming import checked_naming, told
from noneleft.rows import is_number, less, nought, plus, unit
from noneleft.told import told_book


def reached(kinds, value):
    """All tuples that the naming, of clocks alone, tells of crowds."""
    pairs = checked_naming(kinds, value)
    for at, (modulus, _) in enumerate(pairs):
        if modulus == 0:
            raise Refused(at)
    found = {}
    crowds = [nought(kinds)]
    while crowds:
        later = []
        for crowd in crowds:
            hours = told(pairs, crowd)
            if hours not in found:
                found[hours] = True
                later.extend([plus(crowd, unit(kinds, kind)) for kind in range(kinds)])
        crowds = later
    return tuple(sorted(found))


def stands_apart(kinds, value, lot):
    """Tell whether each batch of the told book has only kinds of the lot, or only others."""
    return meeting(kinds, value, lot) is None


def meeting(kinds, value, lot):
    """A crowd of the lot and one of the other kinds that come to nought together, but not alone; or None."""
    pairs = checked_naming(kinds, value)
    chosen = _checked_lot(kinds, lot)
    for batch in told_book(kinds, pairs).batches:
        own = tuple([number if kind in chosen else 0 for kind, number in enumerate(batch)])
        others = less(batch, own)
        if any(own) and any(others):
            return own, others
    return None


def _checked_lot(kinds, value):
    """Any value as a lot: an ascending tuple of kinds, neither none of them nor all."""
    if not isinstance(value, tuple) or not 0 < len(value) < kinds:
        raise Refused(0)
    for at, kind in enumerate(value):
        if not is_number(kind) or kind >= kinds or (at > 0 and kind <= value[at - 1]):
            raise Refused(0)
    return value


def names_beside(kinds, value, more, other):
    """The naming for the kinds of both namings, those of the second one behind, with the pairs of both."""
    first = checked_naming(kinds, value)
    second = checked_naming(more, other)
    pairs = [(modulus, hours + nought(more)) for modulus, hours in first]
    pairs.extend([(modulus, nought(kinds) + hours) for modulus, hours in second])
    return tuple(pairs)
