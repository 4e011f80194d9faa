"""Swaps that a best plan can begin with."""

from swapkinds.orders import forward_counts
from swapkinds.shapes import FORWARD
from swapkinds.tables import cells_of, indexes_of, kinds_at
from swapkinds.yards import check_move, check_yard

MOST_GAIN = 2


def gain(steps, gone, come):
    """How many more cases these steps have behind a swap than before it, told by the cells of its two things."""
    return steps.count(come[0]) + steps.count(come[1]) - steps.count(gone[0]) - steps.count(gone[1])


def cells_met(count, swap):
    """The cells that lose a thing by a swap, and those that get one: two pairs."""
    place, thing, other_place, other_thing = swap
    here = place * count
    there = other_place * count
    return ((here + thing, there + other_thing), (here + other_thing, there + thing))


def slacks(rows):
    """For each order, by the steps that go forward in it, how many cases these have less than those of a best one."""
    counts = forward_counts(rows)
    most = max(counts)
    return [(steps, most - cases) for steps, cases in zip(FORWARD[len(rows)], counts)]


def good_count(rows, swap):
    """How often a swap, by indexes, is good one behind another."""
    gone, come = cells_met(len(rows), swap)
    cells = cells_of(rows)
    times = min(cells[gone[0]], cells[gone[1]])
    if times == 0:
        return 0
    for steps, slack in slacks(rows):
        # The most cases must go down by one each time. No order loses more with a swap, so the best ones must lose
        # one; the others may lag behind, until they have as many as are then left.
        growth = gain(steps, gone, come) + 1
        if growth > 0:
            times = min(times, slack // growth)
    return times


def good_by(near, count, swap):
    """Whether a swap, by indexes, lets none of these orders have as many cases as the best ones have before it."""
    gone, come = cells_met(count, swap)
    for steps, slack in near:
        if gain(steps, gone, come) >= slack:
            return False
    return True


def swaps_there(rows):
    """All swaps, by indexes, that can be made, ascending, with the place that stands ahead first."""
    steps = [(place, thing) for place, row in enumerate(rows) for thing, number in enumerate(row) if number > 0]
    return [one + other for one in steps for other in steps if one[0] < other[0] and one[1] != other[1]]


def good_times(yard, move):
    """How often the move can be made, one behind another, as a swap that is good each time."""
    check_yard(yard)
    check_move(yard.kinds, move)
    if len(move) != 4:
        return 0
    return good_count(yard.rows, indexes_of(yard.kinds, move))


def is_good(yard, move):
    """Whether the move is a swap and good."""
    return good_times(yard, move) > 0


def good_swaps(yard):
    """All good swaps with the place that stands ahead among the kinds first."""
    check_yard(yard)
    # orders that lag behind by more than a swap can bring make no swap bad
    near = [(steps, slack) for steps, slack in slacks(yard.rows) if slack <= MOST_GAIN]
    swaps = [swap for swap in swaps_there(yard.rows) if good_by(near, len(yard), swap)]
    return tuple([kinds_at(yard.kinds, swap) for swap in swaps])
