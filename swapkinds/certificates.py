"""Claims for the checker with certificates that it accepts."""

from swapkinds.errors import Impossible, InvalidNumber
from swapkinds.firsts import good_times
from swapkinds.flows import MOST_RISE, forward_costs, is_possible, most_forward, row_within, some_cells, tight_bounds
from swapkinds.knowing import possible_bounds, told_bounds
from swapkinds.orders import fewest_swaps, first_best_order
from swapkinds.plans import swap_parts
from swapkinds.readings import FAR
from swapkinds.shapes import FORWARD, FORWARD_RISES, ORDERS
from swapkinds.tables import is_number, kinds_at, named, rows_behind, rows_of_cells, text_lines
from swapkinds.turns import fewest_moves, least_bar, move_plan
from swapkinds.yards import check_yard

MOST_NEEDED = 10 ** 28


def swaps_certificate(kinds, rows):
    """The certificate for the fewest swaps of a table, with numbers of any size."""
    return (kinds_at(kinds, first_best_order(rows)), named(kinds, swap_parts(rows)))


def certify_swaps(yard):
    """The claim "swaps" of a yard, and its certificate."""
    check_yard(yard)
    claim = ("swaps", str(yard), fewest_swaps(yard.rows))
    return (claim, swaps_certificate(yard.kinds, yard.rows))


def certify_moves(yard):
    """The claim "moves" of a yard, and its certificate."""
    check_yard(yard)
    claim = ("moves", str(yard), fewest_moves(yard.rows))
    return (claim, (least_bar(yard), move_plan(yard)))


def certify_good(yard, move):
    """The claim "good" of a yard, with how often the move is good, and its certificate; None if it is not."""
    times = good_times(yard, move)
    if times == 0:
        return None
    behind = rows_behind(yard.kinds, yard.rows, move, times)
    before = swaps_certificate(yard.kinds, yard.rows)
    return (("good", str(yard), move, times), (before, swaps_certificate(yard.kinds, behind)))


def heights_of(order, row):
    """The heights of the kinds that a row of rises tells for an order, that of its first kind being 0."""
    # the first rises are those from the first kind to the others
    by_place = [0] + [index - MOST_RISE for index in row[:len(order) - 1]]
    return tuple([by_place[order.index(at)] for at in range(len(order))])


def certify_within(facts):
    """The claim "within" with the most swaps, and its certificate; None if these are endless."""
    count, lows, highs = possible_bounds(facts)
    most, _ = most_forward(count, lows, highs, FAR)
    if most > FAR:
        return None
    costs = forward_costs(count, lows, highs)
    pairs = []
    for order, steps in zip(ORDERS[count], FORWARD[count]):
        row = row_within(costs, steps, FORWARD_RISES[count], most)
        pairs.append((kinds_at(facts.kinds, order), heights_of(order, row)))
    return (("within", facts.kinds, facts.lines, most), tuple(pairs))


def check_needed(number):
    """Raises InvalidNumber if this is no number that is asked for by "needs"."""
    if not is_number(number, 0) or number > MOST_NEEDED:
        raise InvalidNumber(number)


def certify_needs(facts, number):
    """The claim "needs" with this number, and its certificate; None if no table that fits needs so many swaps."""
    count, lows, highs = told_bounds(facts)
    check_needed(number)
    if not is_possible(count, lows, highs):
        raise Impossible()
    most, best = most_forward(count, lows, highs, number)
    if most < number:
        return None
    steps = FORWARD[count][best]
    row = row_within(forward_costs(count, lows, highs), steps, FORWARD_RISES[count], most)
    # what shows that there are no more also tells which steps have all or none of their cases in a table with so many
    tight_lows, tight_highs = tight_bounds(count, lows, highs, steps, row)
    rows = rows_of_cells(count, some_cells(count, tight_lows, tight_highs))
    text = "\n".join(text_lines(facts.kinds, rows))
    return (("needs", facts.kinds, facts.lines, number), (text, kinds_at(facts.kinds, ORDERS[count][best])))
