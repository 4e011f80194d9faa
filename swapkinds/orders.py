"""Orders of the kinds: the steps that go forward in a best one are as many as the swaps that are needed."""

from swapkinds.errors import InvalidOrder
from swapkinds.rings import arrangements
from swapkinds.tables import case_sum, indexes_of, is_order, kinds_at
from swapkinds.yards import check_yard


def forward_steps(order):
    """All steps that go forward in an order."""
    return [(order[at], order[to]) for at in range(len(order)) for to in range(at + 1, len(order))]


def forward_counts(rows):
    """All orders of the kinds of a table, by indexes, ascending: pairs (order, cases of the steps forward)."""
    orders = arrangements(len(rows), len(rows))
    return [(order, case_sum(rows, forward_steps(order))) for order in orders]


def fewest_swaps(rows):
    """The fewest swaps that put a table right, with numbers of any size."""
    return max([cases for _, cases in forward_counts(rows)])


def forward(yard, order):
    """How many cases the steps that go forward in an order of the yard have together."""
    check_yard(yard)
    if not is_order(yard.kinds, order):
        raise InvalidOrder(order)
    return case_sum(yard.rows, forward_steps(indexes_of(yard.kinds, order)))


def best_orders(yard):
    """All orders in which the steps that go forward have the most cases."""
    check_yard(yard)
    most = fewest_swaps(yard.rows)
    return tuple([kinds_at(yard.kinds, order) for order, cases in forward_counts(yard.rows) if cases == most])


def least_swaps(yard):
    """The fewest swaps that put the yard right."""
    check_yard(yard)
    return fewest_swaps(yard.rows)
