"""Balanced tables whose cells lie between bounds: which there are, and the most of some weighted cases in them.

Bounds are two lists of cells, lows and highs. Nothing lies in place, as this changes no balance.
"""

from swapkinds.shapes import CUTS, FORWARD, FORWARD_RISES
from swapkinds.tables import case_sum, is_in_place

# by how much one kind is higher than another one, at most; what is told for all rises is a list from the least one on
MOST_RISE = 3


def step_cells(count):
    """The cells of all steps."""
    return [at for at in range(count * count) if not is_in_place(count, at)]


def turned(count, at):
    """The cell of the step the other way round."""
    return at % count * count + at // count


def is_possible(count, lows, highs):
    """Whether there is a balanced table between bounds."""
    if any([lows[at] > highs[at] for at in step_cells(count)]):
        return False
    # there is one if no choice of kinds has more steps that must be than there can be steps back to it
    return all([case_sum(lows, out) <= case_sum(highs, back) for out, back in CUTS[count]])


def least_cases(count, lows, highs, at):
    """The least cases of a step in balanced tables between bounds, if there are any."""
    needed = [case_sum(lows, back) - case_sum(highs, out) for out, back in CUTS[count] if at in out]
    return max(lows[at], max(needed) + highs[at])


def most_cases(count, lows, highs, at):
    """The most cases of a step in balanced tables between bounds, if there are any."""
    free = [case_sum(highs, back) - case_sum(lows, out) for out, back in CUTS[count] if at in out]
    return min(highs[at], min(free) + lows[at])


def some_cells(count, lows, highs):
    """The cells of a balanced table between bounds, if there are any."""
    lows = [0 if is_in_place(count, at) else low for at, low in enumerate(lows)]
    highs = list(highs)
    # each cell that is set to what is possible leaves values for the others
    for at in step_cells(count):
        lows[at] = least_cases(count, lows, highs, at)
        highs[at] = lows[at]
    return lows


def weighed(weight, low, high):
    """The most that a step adds whose cases, each of this weight, are between two bounds."""
    return weight * (high if weight > 0 else low)


def rise_costs(count, lows, highs, ahead, behind):
    """For each step, by its cell, the most that it and the step back can add, for each rise: a list for each step.

    Cases of the step weigh `ahead`, those of the step back `behind`, besides by how much higher the first kind is.
    """
    costs = [[] for _ in lows]
    for at in step_cells(count):
        back = turned(count, at)
        costs[at] = [weighed(ahead - rise, lows[at], highs[at]) + weighed(behind + rise, lows[back], highs[back])
                     for rise in range(-MOST_RISE, MOST_RISE + 1)]
    return costs


def row_cost(tables, row):
    """The most that all steps can add, their lists of costs standing as the rises of the row."""
    return sum([table[index] for table, index in zip(tables, row)])


def least_cost(costs, steps, rows):
    """The least of what the rows of rises show all steps to add at most."""
    tables = [costs[at] for at in steps]
    return min([row_cost(tables, row) for row in rows])


def row_within(costs, steps, rows, limit):
    """The first row of rises that shows all steps to add so much at most; None if none does."""
    tables = [costs[at] for at in steps]
    for row in rows:
        if row_cost(tables, row) <= limit:
            return row
    return None


def forward_costs(count, lows, highs):
    """The costs if cases of steps that go forward weigh 1; the steps of `rise_costs` are those that go forward."""
    return rise_costs(count, lows, highs, 1, 0)


def most_forward(count, lows, highs, enough):
    """The most cases of steps forward, in any order and table between bounds, and the first order that has them.

    The order is told by its index. Once there are more than enough the search ends.
    """
    costs = forward_costs(count, lows, highs)
    rows = FORWARD_RISES[count]
    most = -1
    best = 0
    for at, steps in enumerate(FORWARD[count]):
        if most <= enough and row_within(costs, steps, rows, most) is None:
            most = least_cost(costs, steps, rows)
            best = at
    return (most, best)


def tight_bounds(count, lows, highs, steps, row):
    """The bounds of the tables that add as much as the row of rises shows for the steps forward: lows and highs."""
    tight_lows = list(lows)
    tight_highs = list(highs)
    for step, index in zip(steps, row):
        rise = index - MOST_RISE
        for at, weight in ((step, 1 - rise), (turned(count, step), rise)):
            if weight > 0:
                tight_lows[at] = highs[at]
            elif weight < 0:
                tight_highs[at] = lows[at]
    return (tight_lows, tight_highs)
