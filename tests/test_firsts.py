"""Good swaps, and how often they are good one behind another."""

import itertools
import unittest

from swapkinds.errors import InvalidMove, NotYard
from swapkinds.firsts import good_swaps, good_times, is_good
from swapkinds.orders import least_swaps
from swapkinds.yards import Yard
from tests.samples import MOST, NO_MOVES, Raising, hall, rings_by_places, rows_of_rings, values_of_all_kinds
from tests.searches import KINDS, SWAPS, TURNS, drawn_yards, great_yards, laid_out, moves_of, needed, swaps_of_rows


def both_ways(swap):
    """A swap told from its one place and from its other one."""
    return (swap, swap[2:] + swap[:2])


def times_by_search(rows, swap, swaps_needed):
    """How often a swap, by indexes, can be made such that one swap fewer is needed each time."""
    times, behind = 0, laid_out(rows, swap)
    while behind and swaps_needed[behind] == swaps_needed[rows] - 1:
        times, rows, behind = times + 1, behind, laid_out(behind, swap)
    return times


def table_behind(yard, swap, times):
    """The table behind a swap with numbers of any size, and whether it can be made so often."""
    place, thing, other_place, other_thing = map(yard.kinds.index, swap)
    rows = [list(row) for row in yard.rows]
    for at, goes, comes in ((place, thing, other_thing), (other_place, other_thing, thing)):
        rows[at][goes] -= times
        rows[at][comes] += times
    return rows, min(map(min, rows)) >= 0


class Searched(Raising):
    def compared(self, rows, swaps_needed):
        """All swaps of a table against how many swaps are needed before and behind them."""
        kinds = KINDS[:len(rows)]
        yard, good = Yard(kinds, rows), []
        for swap in moves_of(len(rows), SWAPS):
            times = times_by_search(rows, swap, swaps_needed)
            for move in both_ways(tuple(kinds[at] for at in swap)):
                self.assertEqual(good_times(yard, move), times, (rows, move))
                self.assertIs(is_good(yard, move), times > 0)
            if times:
                good.append(swap)
        self.assertEqual(good_swaps(yard), tuple(tuple(kinds[at] for at in swap) for swap in sorted(good)))
        return len(good)

    def test_small_yards(self):
        many = set()
        for sums, pace in (((5, 5), 1), ((3, 3, 3), 1), ((4, 2, 3), 2), ((2, 2, 2, 2), 7), ((1, 3, 2, 2), 5),
                           ((3, 2, 3, 3), 60)):
            tables = needed(sums, (SWAPS,))
            for rows in sorted(tables)[::pace]:
                many.add(self.compared(rows, tables))
        self.assertIn(0, many)
        self.assertGreater(max(many), 5)


class Good(Raising):
    def test_examples(self):
        self.assertEqual([is_good(hall(), ("a", "b", "b", "a")), good_times(hall(), ("a", "b", "b", "c")),
                          is_good(hall(), ("a", "c", "c", "d", "d", "a")), good_times(hall(), ("a", "a", "b", "b"))],
                         [True, 2, False, 0])
        self.assertEqual(good_swaps(Yard(("x", "y"), ((0, 3), (3, 5)))), (("x", "y", "y", "x"),))

    def test_order_of_the_kinds_tells_which_place_is_first(self):
        yard = Yard(("y", "x"), ((5, 3), (3, 0)))
        self.assertEqual(good_swaps(yard), (("y", "x", "x", "y"),))
        self.assertEqual([good_times(yard, move) for move in both_ways(("y", "x", "x", "y"))], [3, 3])
        ring = Yard(("c", "a", "b"), rows_of_rings(3, [((0, 1, 2), 1)]))
        self.assertEqual(good_swaps(ring), (("c", "a", "a", "b"), ("c", "a", "b", "c"), ("a", "b", "b", "c")))

    def test_turns(self):
        yard = Yard(("a", "b", "c"), rows_of_rings(3, [((0, 1, 2), 2)], 1))
        for turn in (tuple("abbcca"), tuple("bccaab"), tuple("aabbcc"), tuple("aabbca"), tuple("accbba")):
            for times in (1, 2):
                self.assertIs(is_good(yard, turn), False)
                self.assertEqual(good_times(yard, turn), 0)
        for turn in moves_of(4, TURNS)[::7]:
            move = tuple("abcd"[at] for at in turn)
            self.assertEqual((is_good(hall(), move), good_times(hall(), move)), (False, 0))

    def test_things_in_place(self):
        for yard in [hall(), *drawn_yards(15, 15)]:
            for place, other in itertools.permutations(yard.kinds, 2):
                for thing in yard.kinds:
                    if thing != place:
                        for move in both_ways((place, place, other, thing)):
                            self.assertEqual((is_good(yard, move), good_times(yard, move)), (False, 0))

    def test_what_cannot_be_made(self):
        self.assertEqual(hall().cases("c", "b"), 0)
        for move in (("c", "b", "b", "c"), ("c", "b", "a", "d"), ("a", "d", "d", "a"), ("c", "b", "d", "a")):
            self.assertEqual((is_good(hall(), move), good_times(hall(), move)), (False, 0))
        calm = Yard(KINDS, ((MOST, 0, 0, 0), (0, 0, 0, 0), (0, 0, 1, 0), (0, 0, 0, 1)))
        for swap in moves_of(4, SWAPS):
            move = tuple(KINDS[at] for at in swap)
            self.assertEqual((is_good(calm, move), good_times(calm, move)), (False, 0))
        self.assertEqual(good_swaps(calm), ())

    def test_by_name(self):
        move = ("a", "b", "b", "c")
        self.assertEqual([is_good(move=move, yard=hall()), good_times(move=move, yard=hall())], [True, 2])
        self.assertEqual(good_swaps(yard=hall()), good_swaps(hall()))


class Great(Raising):
    def test_so_often_and_not_once_more(self):
        for yard in great_yards(16, 25):
            before, good = least_swaps(yard), []
            for swap in moves_of(len(yard), SWAPS):
                move = tuple(yard.kinds[at] for at in swap)
                times = good_times(yard, move)
                self.assertEqual((good_times(yard, both_ways(move)[1]), is_good(yard, move)), (times, times > 0))
                self.as_often(yard, move, times, before)
                if times:
                    good.append(move)
            self.assertEqual(good_swaps(yard), tuple(sorted(good, key=lambda move: [*map(yard.kinds.index, move)])))

    def as_often(self, yard, move, times, before):
        for fewer in {times, times // 2, min(times, 1)}:
            rows, can = table_behind(yard, move, fewer)
            self.assertTrue(can)
            self.assertEqual(swaps_of_rows(rows), before - fewer)
        rows, can = table_behind(yard, move, times + 1)
        self.assertFalse(can and swaps_of_rows(rows) == before - times - 1, (yard.rows, move, times))

    def test_numbers_told(self):
        # each swap ends a ring of two, or makes one of a ring of three; the last one would undo a ring of two
        parts = [((0, 1), 10 ** 29), ((0, 1, 2), 10 ** 28 + 3)]
        yard = Yard(("a", "b", "c"), rows_of_rings(3, parts, 5))
        self.assertEqual([good_times(yard, tuple(move)) for move in ("abba", "abbc", "bcca", "acca")],
                         [10 ** 29, 10 ** 28 + 3, 10 ** 28 + 3, 0])
        # the swap is good as long as there are more rings the one way round than the other way
        both = Yard(("a", "b", "c"), rows_of_rings(3, [((0, 1, 2), 10 ** 29 + 1), ((0, 2, 1), 10 ** 28)]))
        self.assertEqual(good_times(both, ("a", "b", "b", "c")), 9 * 10 ** 28 + 1)
        self.assertEqual(good_times(both, ("a", "c", "c", "b")), 0)

    def test_numbers_above_those_of_a_yard(self):
        # behind the swaps more things are in place than a yard can have
        yard = Yard(("x", "y"), ((MOST, MOST), (MOST, MOST)))
        self.assertEqual(good_times(yard, ("x", "y", "y", "x")), MOST)
        self.assertEqual(good_swaps(yard), (("x", "y", "y", "x"),))
        full = Yard(KINDS, ((MOST,) * 4,) * 4)
        self.assertEqual(len(good_swaps(full)), 6)
        for one, other in itertools.permutations(KINDS, 2):
            self.assertEqual(good_times(full, (one, other, other, one)), MOST)

    def test_each_ring_by_itself(self):
        for ring in rings_by_places(4):
            yard = Yard(KINDS, rows_of_rings(4, [(ring, MOST)], MOST))
            # where any two of its things are exchanged, two rings are made of it
            many = len(ring) * (len(ring) - 1) // 2
            self.assertEqual(len(good_swaps(yard)), many, ring)
            for move in good_swaps(yard):
                self.as_often(yard, move, good_times(yard, move), least_swaps(yard))


class Wrong(Raising):
    def test_no_moves(self):
        for move in NO_MOVES:
            self.raised(InvalidMove, "given", move, lambda: is_good(hall(), move), lambda: good_times(hall(), move),
                        lambda: is_good(move=move, yard=hall()), lambda: good_times(move=move, yard=hall()))
        pair = Yard(("a", "b"), ((5, 5), (5, 5)))
        for move in (("a", "b", "b", "a", "c", "c"), ("a", "b", "b", "a", "a", "b"), ("a", "c", "b", "a")):
            self.raised(InvalidMove, "given", move, lambda: is_good(pair, move), lambda: good_times(pair, move))

    def test_no_yard_comes_first(self):
        for value in values_of_all_kinds() + [str(hall()), hall().rows, (hall(),), 5]:
            self.raised(NotYard, "given", value, lambda: good_swaps(value), lambda: good_swaps(yard=value))
            for move in (("a", "b", "b", "a"), ("a",), None):
                self.raised(NotYard, "given", value, lambda: is_good(value, move), lambda: good_times(value, move),
                            lambda: is_good(move=move, yard=value), lambda: good_times(move=move, yard=value))


if __name__ == "__main__":
    unittest.main()
