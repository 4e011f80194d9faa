"""Growth: yards whose numbers grow step by step, and the fewest swaps at all steps."""

from swapkinds.errors import InvalidGrowth
from swapkinds.limits import MOST_COUNT
from swapkinds.orders import forward_counts
from swapkinds.tables import ENDLESS, is_balanced, is_integer
from swapkinds.yards import check_number, check_yard


def is_growth_row(value, count):
    """Whether a value is a row of so many numbers of a growth."""
    if not isinstance(value, tuple) or len(value) != count:
        return False
    return all([is_integer(number) and -MOST_COUNT <= number <= MOST_COUNT for number in value])


def check_growth(yard, growth):
    """Raises InvalidGrowth if this is no growth of the yard."""
    count = len(yard)
    if not isinstance(growth, tuple) or len(growth) != count:
        raise InvalidGrowth(growth)
    if not all([is_growth_row(row, count) for row in growth]) or not is_balanced(growth):
        raise InvalidGrowth(growth)


def check_grown(yard, growth):
    """Raises NotYard or InvalidGrowth if these are no yard and no growth of it."""
    check_yard(yard)
    check_growth(yard, growth)


def final_step(yard, growth):
    """The last step; None if there is none."""
    steps = [number // -more for row, grown in zip(yard.rows, growth) for number, more in zip(row, grown) if more < 0]
    return min(steps, default=None)


def order_lines(yard, growth):
    """For each order the cases of the steps forward at step 0, and by how many they grow: pairs (base, slope)."""
    return list(zip(forward_counts(yard.rows), forward_counts(growth)))


def swaps_at(lines, step):
    """The fewest swaps at a step: as many as the order that has the most cases forward."""
    return max([base + slope * step for base, slope in lines])


def next_start(lines, base, slope):
    """The first step at which one of the lines is above the piece with this base and slope; None if there is none."""
    # the lines that rise less are below it, as they are at its first two steps
    steps = [(base - start) // (rise - slope) + 1 for start, rise in lines if rise > slope]
    return min(steps, default=None)


def found_pieces(yard, growth):
    """The pieces (first, base, slope), as a list."""
    lines = order_lines(yard, growth)
    last = final_step(yard, growth)
    found = []
    first = 0
    while first is not None and (last is None or first < last):
        slope = swaps_at(lines, first + 1) - swaps_at(lines, first)
        base = swaps_at(lines, first) - slope * first
        found.append((first, base, slope))
        first = next_start(lines, base, slope)
    if first is not None and first == last:
        found.append((first, swaps_at(lines, first), 0))
    return found


def steps_above(line, lines, last):
    """The first and the last step at which a line is above all of the lines, this None if there is none; or None."""
    base, slope = line
    first = 0
    for start, rise in lines:
        ahead = base - start
        nearing = rise - slope
        if nearing < 0:
            first = max(first, ahead // nearing + 1)
        elif nearing > 0:
            end = (ahead - 1) // nearing
            last = end if last is None else min(last, end)
        elif ahead <= 0:
            return None
    return (first, last) if last is None or first <= last else None


def last_step(yard, growth):
    """The last step at which no number has ever been below 0, "endless" if there is none."""
    check_grown(yard, growth)
    last = final_step(yard, growth)
    return ENDLESS if last is None else last


def pieces(yard, growth):
    """The fewest swaps at all steps, as triples (first, base, slope)."""
    check_grown(yard, growth)
    return tuple(found_pieces(yard, growth))


def steps_within(yard, growth, number):
    """The first and the last step at which at most so many swaps are needed; None if there is no such step."""
    check_grown(yard, growth)
    check_number(number, 0)
    steps = steps_above((number + 1, 0), order_lines(yard, growth), final_step(yard, growth))
    if steps is None:
        return None
    first, last = steps
    return (first, ENDLESS if last is None else last)


def overtakes(one, growth, other, second):
    """The first step that both have at which the one yard needs more swaps; None if there is none."""
    check_grown(one, growth)
    check_grown(other, second)
    ends = [end for end in (final_step(one, growth), final_step(other, second)) if end is not None]
    last = min(ends, default=None)
    lines = order_lines(other, second)
    # more are needed where an order of the one has more cases forward than all orders of the other one
    found = [steps_above(line, lines, last) for line in sorted(set(order_lines(one, growth)))]
    return min([steps[0] for steps in found if steps is not None], default=None)
