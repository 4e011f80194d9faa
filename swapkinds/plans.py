"""Plans of swaps, and how many things so many swaps bring in place."""

from swapkinds.errors import InvalidPlan
from swapkinds.rings import pairs_first_numbers, rings_by_size
from swapkinds.tables import is_number, is_pair, named
from swapkinds.yards import check_number, check_yard


def ring_swaps(ring):
    """The swaps that put the things of a ring right, one fewer than it has kinds."""
    things = ring[1:] + ring[:1]
    return [(ring[0], things[at - 1], ring[at], things[at]) for at in range(1, len(ring))]


def swap_parts(rows):
    """A plan of swaps alone, by indexes, that puts a table right with as few as can be: pairs (swap, times)."""
    return [(swap, number) for ring, number in pairs_first_numbers(rows) for swap in ring_swaps(ring)]


def swap_plan(yard):
    """A plan of swaps alone that puts the yard right with as few swaps as can be."""
    check_yard(yard)
    return named(yard.kinds, swap_parts(yard.rows))


def is_timed(value):
    """Whether a value is a pair of a tuple, whatever is in it, and an integer from 1 on."""
    return is_pair(value) and isinstance(value[0], tuple) and is_number(value[1], 1)


def plan_length(plan):
    """How many moves a plan has."""
    if not isinstance(plan, tuple):
        raise InvalidPlan(None)
    for at, part in enumerate(plan):
        if not is_timed(part):
            raise InvalidPlan(at)
    return sum([times for _, times in plan])


def ring_numbers(yard):
    """How many rings of each size are put right, one behind another: pairs (size, number)."""
    # Each swap puts one thing in place, and one more where it ends a ring. So the most rings are to be ended, those
    # with fewer kinds first. Any parting becomes the one that takes pairs first by taking rings of two out of two
    # rings that have both steps of one, and what else becomes of those two ends no later than they would.
    return list(zip((2, 3, 4), rings_by_size(pairs_first_numbers(yard.rows))))


def most_in_place(yard, number):
    """How many things at most can be in place behind at most so many swaps."""
    check_yard(yard)
    check_number(number, 0)
    placed = yard.size() - yard.out()
    left = number
    for size, rings in ring_numbers(yard):
        swaps = min(left, rings * (size - 1))
        placed += swaps + swaps // (size - 1)
        left -= swaps
    return placed


def swaps_for(yard, number):
    """The fewest swaps behind which so many things, or more, are in place; None if the yard has fewer things."""
    check_yard(yard)
    check_number(number, 0)
    if number > yard.size():
        return None
    missing = max(0, number - (yard.size() - yard.out()))
    swaps = 0
    for size, rings in ring_numbers(yard):
        things = min(missing, rings * size)
        swaps += things - things // size
        missing -= things
    return swaps
