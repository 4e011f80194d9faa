"""How much is done to answer a question, counted in instructions of Python, which no load of a machine changes."""

import itertools
import random
import sys
import unittest

from swapkinds.certificates import certify_good, certify_moves, certify_needs, certify_swaps, certify_within
from swapkinds.checker import accepts
from swapkinds.consoles import Console
from swapkinds.errors import NotPossible
from swapkinds.firsts import good_swaps, good_times, is_good
from swapkinds.growing import last_step, overtakes, pieces, steps_within
from swapkinds.knowing import Facts, case_range, most_swaps, out_range, possible, some_rows
from swapkinds.libraries import Library
from swapkinds.mends import kept, mends
from swapkinds.orders import best_orders, least_swaps
from swapkinds.plans import most_in_place, swap_plan, swaps_for
from swapkinds.rings import most_rings, pairs_first, ring_ranges
from swapkinds.turns import least_bar, least_moves, most_threes, move_plan
from swapkinds.works import Work
from swapkinds.yards import Yard
from tests.samples import hall
from tests.searches import KINDS, drawn_yards, great_yards


def instructions(call, *arguments):
    """How many instructions a call runs."""
    many = 0

    def count(frame, event, _):
        nonlocal many
        frame.f_trace_opcodes, frame.f_trace_lines = True, False
        many += event == "opcode"
        return count

    before = sys.gettrace()
    sys.settrace(count)
    try:
        # Python 3.13 tells of the instructions of a function only from its second traced call on
        call(*arguments)
        many = 0
        call(*arguments)
    finally:
        sys.settrace(before)
    return many


def asked():
    """Yards of four kinds, also such as have all orders alike."""
    alike = [Yard(KINDS, ((number,) * 4,) * 4) for number in (0, 3, 10 ** 30)]
    drawn = [*drawn_yards(50, 12, greatest=9), *great_yards(51, 8)]
    return [hall(), *alike, *(yard for yard in drawn if len(yard) == 4)]


class Counting(unittest.TestCase):
    def most(self, limit, *calls):
        """No call runs more instructions than this; finding all bars anew took more than 160000."""
        for yard in asked():
            for call in calls:
                self.assertLess(instructions(call, yard), limit, (call, yard.rows))


class Quick(Counting):
    def test_counted(self):
        few, many = instructions(lambda: sum([k for k in range(10)])), instructions(lambda: [k for k in range(1000)])
        self.assertGreater(few, 10)
        self.assertGreater(many, 10 * few)

    def test_swaps_and_rings(self):
        self.most(5000, least_swaps, most_rings, pairs_first, ring_ranges, swap_plan,
                  lambda yard: most_in_place(yard, 5), lambda yard: swaps_for(yard, 5))
        self.most(6000, best_orders)

    def test_moves(self):
        self.most(5000, most_threes, least_moves)
        self.most(30000, least_bar)
        self.most(20000, move_plan)

    def test_good_swaps(self):
        self.most(60000, good_swaps)
        for call in (is_good, good_times):
            self.most(6000, lambda yard: call(yard, (yard.kinds[0], yard.kinds[1], yard.kinds[2], yard.kinds[0])))


class Later(Counting):
    def test_growth(self):
        def grown(yard):
            count = len(yard)
            return tuple(tuple((to - at) % count == 1 and 3 or 0 for to in range(count)) for at in range(count))

        self.most(20000, lambda yard: last_step(yard, grown(yard)), lambda yard: pieces(yard, grown(yard)),
                  lambda yard: steps_within(yard, grown(yard), 10 ** 29))
        self.most(40000, lambda yard: overtakes(yard, grown(yard), hall(), grown(hall())))

    def test_wishes(self):
        for word in ("swaps", "moves", "rings", "out"):
            self.most(6000, lambda yard: kept(yard, (word, 5)))
        changes = (("a 1 4 2 0", "a 2 3 2 0"), ("b 1 2 2 2", "b 0 3 2 2"), ("b 1 2 2 2", "b 2 2 1 2"),
                   ("c 1 0 0 3", "c 0 0 1 3"), ("c 1 0 0 3", "c 0 1 0 3"), ("d 4 1 0 3", "d 3 1 0 4"))
        self.assertLess(instructions(mends, hall(), (("swaps", 2), ("rings", 9)), changes), 100000)

    def test_works(self):
        def ten_moves(yard):
            work = Work(yard)
            for move, times in 5 * (((yard.kinds[0], yard.kinds[0], yard.kinds[1], yard.kinds[2]), 1),
                                    ((yard.kinds[0], yard.kinds[2], yard.kinds[1], yard.kinds[0]), 1)):
                try:
                    work.make(move, times)
                except NotPossible:
                    pass
            return work.left, work.wasted, work.plan

        self.most(70000, ten_moves)

    def test_consoles_and_libraries(self):
        def answered(yard):
            console = Console()
            console.do("yard h " + str(yard).replace("\n", "; "))
            for word in ("out h", "swaps h", "moves h", "rings h", "order h", "behind h 5", "swap h a b b a", "undo"):
                console.do(word)

        def held(yard):
            library = Library()
            for word in ("swaps", "moves", "out"):
                library["all"] = yard
                library.wish("all", (word, 10 ** 32))
            library.undo()

        self.most(40000, answered)
        self.most(40000, held)

    def test_certificates(self):
        for call in (certify_swaps, certify_moves):
            self.most(40000, call)
            self.most(80000, lambda yard: accepts(*call(yard)))
        self.most(40000, lambda yard: certify_good(yard, (*yard.kinds[:2], *yard.kinds[1::-1])))

    def test_facts(self):
        draw = random.Random(52)
        steps = list(itertools.permutations(KINDS, 2))
        for _ in range(25):
            told = draw.sample(steps, draw.choice((4, 9, 12)))
            lines = [f"{place} {thing} from {draw.choice((0, 0, 1, 7))} to {draw.randint(7, 10 ** 24)}"
                     for place, thing in told]
            facts = Facts(KINDS, tuple(lines))
            if possible(facts):
                for limit, call in ((3000, possible), (15000, some_rows), (35000, out_range), (150000, most_swaps),
                                    (6000, lambda known: case_range(known, "d", "b")), (250000, certify_within),
                                    (250000, lambda known: certify_needs(known, 5))):
                    self.assertLess(instructions(call, facts), limit, (call, facts.lines))


if __name__ == "__main__":
    unittest.main()
