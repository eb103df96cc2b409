"""What is left at least, and who must come at least, by costs of the kinds."""

from heapq import heappop, heappush

from noneleft.books import checked_crowd, is_index
from noneleft.errors import InvalidQuestion, InvalidRun
from noneleft.rows import is_integer, is_within, less, misfit, nought, plus, step_at, weighed
from noneleft.runs import all_ends, run_between


def checked_costs(book, value):
    """Any value as costs, one for each kind of the book."""
    at = misfit(value, book.kinds, _is_cost)
    if at is not None:
        raise InvalidQuestion(at)
    return tuple(value)


def _is_cost(value):
    """Tell whether any value is an integer from 1 on."""
    return is_integer(value) and value >= 1


def least_left(book, crowd, costs):
    """The least cost of all remnants of the crowd."""
    least = least_remnants(book, crowd, costs)
    return weighed(least[0], costs)


def least_remnants(book, crowd, costs):
    """All remnants of the crowd that have the least cost."""
    present = checked_crowd(book, crowd)
    prices = checked_costs(book, costs)
    remnants = all_ends(book, present)
    least = min([weighed(left, prices) for left in remnants])
    return tuple([left for left in remnants if weighed(left, prices) == least])


def least_run(book, crowd, costs):
    """Some run that ends and leaves a remnant of the least cost."""
    least = least_remnants(book, crowd, costs)
    return run_between(book, crowd, least[0])


def coming_cost(book, crowd, costs):
    """The least cost of a crowd that must come such that all together are clearable, or None."""
    coming = least_coming(book, crowd, costs)
    return None if coming is None else weighed(coming, costs)


def least_coming(book, crowd, costs):
    """Some crowd of the least cost that must come such that all together are clearable, or None."""
    present = checked_crowd(book, crowd)
    covering = _cheapest_covering(book, present, checked_costs(book, costs))
    return None if covering is None else less(covering, present)


def _cheapest_covering(book, crowd, costs):
    """Some crowd of the least cost that batches clear and that the crowd (a tuple) is within, or None."""
    # Who is wanted first must go off with some batch, and in which order batches go off does not matter.
    reached = {}
    queue = [(0, crowd, nought(book.kinds))]
    while queue:
        cost, wanted, total = heappop(queue)
        if not any(wanted):
            return total
        if wanted in reached:
            continue
        reached[wanted] = True
        first = step_at(wanted)
        for batch in book.batches:
            if batch[first] > 0:
                still = tuple([max(number, 0) for number in less(wanted, batch)])
                heappush(queue, (cost + weighed(batch, costs), still, plus(total, batch)))
    return None


def added_cost(book, crowd, batch, costs):
    """By how much the coming cost rises when the batch goes off, or None if there is none."""
    present = checked_crowd(book, crowd)
    if not is_index(book, batch) or not is_within(book.batches[batch], present):
        raise InvalidRun(0)
    before = coming_cost(book, present, costs)
    if before is None:
        return None
    return coming_cost(book, less(present, book.batches[batch]), costs) - before
