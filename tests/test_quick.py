"""How much is done to answer a question, counted in instructions of Python, which no other load of a machine changes."""

import sys
import unittest

from swapkinds.firsts import good_swaps, good_times, is_good
from swapkinds.orders import best_orders, least_swaps
from swapkinds.plans import most_in_place, swap_plan, swaps_for
from swapkinds.rings import most_rings, pairs_first, ring_ranges
from swapkinds.turns import least_bar, least_moves, most_threes, move_plan
from swapkinds.yards import Yard
from tests.samples import hall
from tests.searches import KINDS, drawn_yards, great_yards


def instructions(call, *arguments):
    """How many instructions a call runs."""
    many = 0

    def count(frame, event, _):
        nonlocal many
        frame.f_trace_opcodes, frame.f_trace_lines = True, False
        many += event == "opcode"
        return count

    before = sys.gettrace()
    sys.settrace(count)
    try:
        # Python 3.13 tells of the instructions of a function only from its second traced call on
        call(*arguments)
        many = 0
        call(*arguments)
    finally:
        sys.settrace(before)
    return many


def asked():
    """Yards of four kinds, also such as have all orders alike."""
    alike = [Yard(KINDS, ((number,) * 4,) * 4) for number in (0, 3, 10 ** 30)]
    drawn = [*drawn_yards(50, 12, greatest=9), *great_yards(51, 8)]
    return [hall(), *alike, *(yard for yard in drawn if len(yard) == 4)]


class Quick(unittest.TestCase):
    def most(self, limit, *calls):
        """No call runs more instructions than this; finding all bars anew took more than 160000."""
        for yard in asked():
            for call in calls:
                self.assertLess(instructions(call, yard), limit, (call, yard.rows))

    def test_counted(self):
        few, many = instructions(lambda: sum([k for k in range(10)])), instructions(lambda: [k for k in range(1000)])
        self.assertGreater(few, 10)
        self.assertGreater(many, 10 * few)

    def test_swaps_and_rings(self):
        self.most(5000, least_swaps, most_rings, pairs_first, ring_ranges, swap_plan,
                  lambda yard: most_in_place(yard, 5), lambda yard: swaps_for(yard, 5))
        self.most(6000, best_orders)

    def test_moves(self):
        self.most(5000, most_threes, least_moves)
        self.most(30000, least_bar)
        self.most(20000, move_plan)

    def test_good_swaps(self):
        self.most(60000, good_swaps)
        for call in (is_good, good_times):
            self.most(6000, lambda yard: call(yard, (yard.kinds[0], yard.kinds[1], yard.kinds[2], yard.kinds[0])))


if __name__ == "__main__":
    unittest.main()
