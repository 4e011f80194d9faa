"""Swaps that a best plan can begin with."""

from swapkinds.orders import forward_counts, forward_steps
from swapkinds.tables import indexes_of, kinds_at
from swapkinds.yards import check_move, check_yard


def gain(order, swap):
    """How many more cases the steps forward in an order have behind a swap, by indexes, than before it."""
    place, thing, other_place, other_thing = swap
    steps = forward_steps(order)
    come = [step for step in ((place, other_thing), (other_place, thing)) if step in steps]
    gone = [step for step in ((place, thing), (other_place, other_thing)) if step in steps]
    return len(come) - len(gone)


def good_count(rows, counts, swap):
    """How often a swap, by indexes, is good one behind another; the counts are those of all orders of the table."""
    place, thing, other_place, other_thing = swap
    most = max([cases for _, cases in counts])
    times = min(rows[place][thing], rows[other_place][other_thing])
    for order, cases in counts:
        # The most cases must go down by one each time. No order loses more with a swap, so the best ones must lose
        # one; the others may lag behind, until they have as many as are then left.
        growth = gain(order, swap) + 1
        if growth > 0:
            times = min(times, (most - cases) // growth)
    return times


def all_swaps(count):
    """All swaps of so many kinds, by indexes, ascending, with the place that stands ahead first."""
    indexes = range(count)
    return [(place, thing, other_place, other_thing) for place in indexes for thing in indexes
            for other_place in indexes if place < other_place for other_thing in indexes if thing != other_thing]


def good_times(yard, move):
    """How often the move can be made, one behind another, as a swap that is good each time."""
    check_yard(yard)
    check_move(yard.kinds, move)
    if len(move) != 4:
        return 0
    return good_count(yard.rows, forward_counts(yard.rows), indexes_of(yard.kinds, move))


def is_good(yard, move):
    """Whether the move is a swap and good."""
    return good_times(yard, move) > 0


def good_swaps(yard):
    """All good swaps with the place that stands ahead among the kinds first."""
    check_yard(yard)
    counts = forward_counts(yard.rows)
    swaps = [swap for swap in all_swaps(len(yard)) if good_count(yard.rows, counts, swap) > 0]
    return tuple([kinds_at(yard.kinds, swap) for swap in swaps])
