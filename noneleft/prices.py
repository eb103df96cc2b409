"""Prices of names, and ends of unlike costs."""

from heapq import heappop, heappush

from noneleft.books import is_stuck
from noneleft.court import unsafe_paper
from noneleft.covers import is_tuple_run
from noneleft.least import checked_costs
from noneleft.naming import all_names
from noneleft.rows import are_numbers, is_within, less, lowered, nought, plus, unit, weighed
from noneleft.runs import crowd_of, first_run
from noneleft.stuck import alone, stuck_by_name
from noneleft.tables import signed_table


def cheapest_crowds(book, costs):
    """For each name the first of the crowds of the least cost that have it."""
    names = all_names(book)
    cheapest = _cheapest_by_name(book, checked_costs(book, costs))
    return tuple([cheapest[name] for name in names])


def _cheapest_by_name(book, costs):
    """A dict of each name and the first of the crowds of the least cost that have it."""
    # One less of a kind in such a crowd leaves such a crowd, so each is found from one that is cheaper.
    table = signed_table(book)
    cheapest = {}
    queue = [(0, nought(book.kinds))]
    while queue:
        cost, crowd = heappop(queue)
        name = lowered(table, crowd)
        if name not in cheapest:
            cheapest[name] = crowd
            for kind in range(book.kinds):
                heappush(queue, (cost + costs[kind], plus(crowd, unit(book.kinds, kind))))
    return cheapest


def highest_prices(book, costs):
    """The price list of the costs of the cheapest crowds."""
    return tuple([weighed(crowd, costs) for crowd in cheapest_crowds(book, costs)])


def is_price_list(book, costs, value):
    """Tell whether any value is a price list."""
    names = all_names(book)
    rises = checked_costs(book, costs)
    if not are_numbers(value, len(names)) or value[0] != 0:
        return False
    table = signed_table(book)
    price_of = {name: price for name, price in zip(names, value)}
    for name in names:
        for kind in range(book.kinds):
            after = lowered(table, plus(name, unit(book.kinds, kind)))
            if price_of[after] > price_of[name] + rises[kind]:
                return False
    return True


def unlike_ends(book, costs):
    """A crowd and two runs from it that leave remnants of unlike costs; None if there is none."""
    all_names(book)
    prices = checked_costs(book, costs)
    paper = unsafe_paper(book)
    if paper is not None:
        return paper
    for _, crowds in stuck_by_name(book):
        for left in crowds:
            if weighed(left, prices) != weighed(crowds[0], prices):
                return _runs_apart(book, crowds[0], left)
    return None


def _runs_apart(book, one, other):
    """A crowd of a safe book, and a run to each of two stuck crowds with the same name."""
    # So many that all things of a kind come to nought are put to the first where the second has more.
    coming = [number if theirs > mine else 0 for mine, theirs, number in zip(one, other, alone(book))]
    crowd = plus(one, coming)
    return crowd, first_run(book, less(crowd, one)), first_run(book, less(crowd, other))


def is_unlike(book, costs, value):
    """Tell whether any value is a crowd and two runs from it that end and leave remnants of unlike costs."""
    prices = checked_costs(book, costs)
    if not isinstance(value, tuple) or len(value) != 3 or not are_numbers(value[0], book.kinds):
        return False
    crowd, run, other = value
    if not _ends(book, crowd, run) or not _ends(book, crowd, other):
        return False
    return weighed(crowd_of(book, run), prices) != weighed(crowd_of(book, other), prices)


def _ends(book, crowd, value):
    """Tell whether any value is a run, a tuple, from the crowd that ends."""
    if not is_tuple_run(book, value):
        return False
    gone = crowd_of(book, value)
    return is_within(gone, crowd) and is_stuck(book, less(crowd, gone))
