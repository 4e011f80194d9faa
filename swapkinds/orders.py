"""Orders of the kinds: the steps that go forward in a best one are as many as the swaps that are needed."""

from swapkinds.errors import InvalidOrder
from swapkinds.shapes import FORWARD, ORDERS
from swapkinds.tables import case_sum, cells_of, indexes_of, is_order, kinds_at
from swapkinds.yards import check_yard


def forward_counts(rows):
    """How many cases the steps that go forward have together, for each order of the kinds of a table."""
    cells = cells_of(rows)
    return [case_sum(cells, steps) for steps in FORWARD[len(rows)]]


def fewest_swaps(rows):
    """The fewest swaps that put a table right, with numbers of any size."""
    return max(forward_counts(rows))


def first_best_order(rows):
    """The first order, by indexes, in which the steps that go forward have the most cases."""
    counts = forward_counts(rows)
    return ORDERS[len(rows)][counts.index(max(counts))]


def forward(yard, order):
    """How many cases the steps that go forward in an order of the yard have together."""
    check_yard(yard)
    if not is_order(yard.kinds, order):
        raise InvalidOrder(order)
    at = ORDERS[len(yard)].index(indexes_of(yard.kinds, order))
    return case_sum(cells_of(yard.rows), FORWARD[len(yard)][at])


def best_orders(yard):
    """All orders in which the steps that go forward have the most cases."""
    check_yard(yard)
    counts = forward_counts(yard.rows)
    most = max(counts)
    orders = [order for order, cases in zip(ORDERS[len(yard)], counts) if cases == most]
    return tuple([kinds_at(yard.kinds, order) for order in orders])


def least_swaps(yard):
    """The fewest swaps that put the yard right."""
    check_yard(yard)
    return fewest_swaps(yard.rows)
