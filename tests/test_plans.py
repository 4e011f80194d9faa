"""Plans of swaps, and how many things so many swaps bring in place."""

import unittest

from swapkinds.errors import InvalidNumber, InvalidPlan, NotYard
from swapkinds.orders import least_swaps
from swapkinds.plans import most_in_place, plan_length, swap_plan, swaps_for
from swapkinds.yards import Yard
from tests.samples import MOST, Raising, all_partings, hall, rings_by_places, rows_of_rings, values_of_all_kinds
from tests.searches import KINDS, SWAPS, distances, drawn_yards, great_yards, in_place, neighbours, rows_after

NO_NUMBERS = values_of_all_kinds() + [-1, -10 ** 40, "1", (1,), [0], "", b"1", True, False]
NO_YARDS = values_of_all_kinds() + [str(hall()), hall().rows, (hall(),), 5]


def all_right(yard, rows):
    """Whether a table has all things of the yard in place."""
    return rows == tuple(tuple(sum(row) if at == to else 0 for to in range(len(yard)))
                         for at, row in enumerate(yard.rows))


class SwapPlans(Raising):
    def checked(self, yard):
        plan = swap_plan(yard)
        self.assertTrue(all(len(move) == 4 for move, _ in plan))
        self.assertTrue(all_right(yard, rows_after(yard, plan)), yard.rows)
        self.assertEqual(sum(times for _, times in plan), least_swaps(yard))
        self.assertEqual(plan_length(plan), least_swaps(yard))
        self.assertEqual(swap_plan(yard=yard), plan)
        self.assertEqual(plan == (), yard.out() == 0)

    def test_example(self):
        self.checked(hall())
        self.assertEqual((plan_length(swap_plan(hall())), hall().behind(swap_plan(hall())).out()), (13, 0))

    def test_small_yards(self):
        for sums in ((3, 3), (3, 3, 3), (2, 2, 2, 2), (1, 3, 2, 2)):
            for rows in neighbours(sums, (SWAPS,)):
                self.checked(Yard(KINDS[:len(sums)], rows))

    def test_great_yards(self):
        for yard in [*drawn_yards(6, 100, greatest=9), *great_yards(7, 200)]:
            self.checked(yard)
            self.assertEqual(yard.behind(swap_plan(yard)).out(), 0)

    def test_greatest_numbers(self):
        self.checked(Yard(KINDS, ((MOST,) * 4,) * 4))
        self.checked(Yard(("x", "y"), ((MOST, MOST), (MOST, 0))))
        # all twenty rings at once
        self.checked(Yard(KINDS, rows_of_rings(4, [(ring, 10 ** 28) for ring in rings_by_places(4)])))

    def test_each_ring_by_itself(self):
        for ring in rings_by_places(4):
            for number in (1, 10 ** 30):
                self.checked(Yard(KINDS, rows_of_rings(4, [(ring, number)])))

    def test_all_in_place(self):
        for count in (2, 3, 4):
            for many in (0, 7, MOST):
                self.assertEqual(swap_plan(Yard(KINDS[:count], rows_of_rings(count, [], many))), ())

    def test_no_yard(self):
        for value in NO_YARDS:
            self.raised(NotYard, "given", value, lambda: swap_plan(value), lambda: swap_plan(yard=value))


class Lengths(Raising):
    def test_sums(self):
        swap, turn = ("a", "b", "b", "a"), ("a", "b", "b", "c", "c", "a")
        self.assertEqual(plan_length(()), 0)
        self.assertEqual(plan_length(((swap, 1),)), 1)
        self.assertEqual(plan_length(((swap, 3), (turn, 4), (swap, 3))), 10)
        self.assertEqual(plan_length(plan=((turn, MOST), (swap, 1), (turn, 10 ** 40))), MOST + 1 + 10 ** 40)

    def test_any_tuples_in_the_places_of_moves(self):
        for value in ((), ("a",), (1, 2, 3), ("a", "a", "a", "a"), (None,), ((),), (object(), []), ("a",) * 9):
            self.assertEqual(plan_length(((value, 2), (value, 5))), 7)

    def test_no_tuple(self):
        for plan in values_of_all_kinds() + [[(("a", "b", "b", "a"), 1)], 5, "ab", hall()]:
            if not isinstance(plan, tuple):
                self.raised(InvalidPlan, "index", None, lambda: plan_length(plan), lambda: plan_length(plan=plan))

    def test_first_fault(self):
        good = (("a", "b", "b", "a"), 1)
        faults = values_of_all_kinds() + [list(good), good + (1,), good[:1], good[0], (1, good[0]), (1, 1), 5, (good,)]
        faults += [(good[0], times) for times in values_of_all_kinds() + [0, -1, -10 ** 30, "1", (1,), True, False]]
        faults += [(move, 1) for move in values_of_all_kinds() + ["abba", list(good[0])] if not isinstance(move, tuple)]
        for fault in faults:
            self.raised(InvalidPlan, "index", 0, lambda: plan_length((fault,)), lambda: plan_length((fault, fault)))
            self.raised(InvalidPlan, "index", 1, lambda: plan_length((good, fault, None)))
            self.raised(InvalidPlan, "index", 4, lambda: plan_length(plan=(good,) * 4 + (fault, good)))


def most_by_search(rows):
    """How many things can be in place behind 0, 1, 2, .. swaps, up to when all are."""
    known = distances(rows, (SWAPS,))
    best = [0] * (max(known.values()) + 1)
    for behind, swaps in known.items():
        best[swaps] = max(best[swaps], in_place(behind))
    most = [max(best[:swaps + 1]) for swaps in range(len(best))]
    return most[:most.index(max(most)) + 1]


def most_by_partings(rows):
    """Likewise, over all partings, with the shortest rings of each of them ended first."""
    size, placed = sum(map(sum, rows)), in_place(rows)
    found = []
    for parts in all_partings(rows):
        rings = sorted(len(ring) for ring, number in parts for _ in range(number))
        line = [placed]
        for length in rings:
            # each swap puts one thing in place, the last one of a ring two
            for at in range(length - 1):
                line.append(line[-1] + (2 if at == length - 2 else 1))
        found.append(line)
    least = min(map(len, found))
    assert all(line[-1] == size for line in found)
    return [max(line[at] for line in found) for at in range(least)]


class InPlace(Raising):
    def compared(self, yard, most):
        """The answers for a yard against how many things can be in place behind 0, 1, 2, .. swaps."""
        for swaps, things in enumerate(most):
            self.assertEqual(most_in_place(yard, swaps), things, (yard.rows, swaps))
        for number in (len(most), len(most) + 1, 10 ** 40):
            self.assertEqual(most_in_place(yard, number), yard.size())
        for things in range(yard.size() + 1):
            fewest = min(swaps for swaps, placed in enumerate(most) if placed >= things)
            self.assertEqual(swaps_for(yard, things), fewest, (yard.rows, things))
        for number in (yard.size() + 1, 10 ** 40):
            self.assertIsNone(swaps_for(yard, number))

    def test_examples(self):
        self.assertEqual([most_in_place(hall(), swaps) for swaps in (3, 4, 10, 10 ** 30)], [12, 13, 22, 26])
        self.assertEqual([swaps_for(hall(), things) for things in (12, 14, 15, 26, 27)], [3, 5, 5, 13, None])

    def test_against_a_search(self):
        for sums in ((3, 3), (3, 3, 3), (4, 2, 3), (2, 2, 2, 2), (1, 3, 2, 2)):
            for rows in neighbours(sums, (SWAPS,)):
                self.compared(Yard(KINDS[:len(sums)], rows), most_by_search(rows))
        for rows in sorted(neighbours((3, 2, 3, 3), (SWAPS,)), key=in_place)[:400:20]:
            self.compared(Yard(KINDS, rows), most_by_search(rows))

    def test_against_all_partings(self):
        for yard in drawn_yards(8, 250, greatest=2):
            if yard.out() <= 27:
                self.compared(yard, most_by_partings(yard.rows))

    def test_by_name(self):
        self.assertEqual(most_in_place(number=4, yard=hall()), 13)
        self.assertEqual(swaps_for(number=15, yard=hall()), 5)


class GreatNumbers(Raising):
    def test_where_the_rings_of_a_size_are_done(self):
        for twos, threes, fours in ((10 ** 29 + 3, 10 ** 28 + 7, 10 ** 27 + 1), (5, 10 ** 29, 10 ** 29 + 1),
                                    (0, 10 ** 29 + 2, 4), (10 ** 29, 0, 10 ** 28), (0, 0, 10 ** 29), (10 ** 29, 0, 0)):
            parts = [((0, 1), twos), ((0, 1, 2), threes), ((0, 1, 2, 3), fours)]
            yard = Yard(KINDS, rows_of_rings(4, parts, 10 ** 30 - 9))
            placed = 4 * (10 ** 30 - 9)
            # how many swaps, and how many things in place with them, behind the rings of two, three and four
            self.near(yard, 0, placed, twos, 2)
            self.near(yard, twos, placed + 2 * twos, threes, 3)
            self.near(yard, twos + 2 * threes, placed + 2 * twos + 3 * threes, fours, 4)
            all_swaps = twos + 2 * threes + 3 * fours
            for more in (0, 1, 2, 10 ** 35):
                self.assertEqual(most_in_place(yard, all_swaps + more), yard.size())
            self.assertEqual(swaps_for(yard, yard.size()), all_swaps)
            self.assertIsNone(swaps_for(yard, yard.size() + 1))
            self.assertEqual([swaps_for(yard, things) for things in (0, 1, placed - 1, placed)], [0] * 4)

    def near(self, yard, swaps, placed, rings, size):
        """At the first rings of this size, in their middle, and at the last ones."""
        for done in (0, 1, rings // 2, rings - 2, rings - 1):
            if 0 <= done < rings:
                for at in range(size):
                    many, things = swaps + done * (size - 1) + at, placed + done * size + at + (at == size - 1)
                    self.assertEqual(most_in_place(yard, many), things)
                    self.assertEqual(swaps_for(yard, things), many)
                    self.assertEqual(swaps_for(yard, things - (at == size - 1)), many)

    def test_both_agree(self):
        for yard in great_yards(9, 60):
            needed = least_swaps(yard)
            for number in sorted({0, 1, 2, needed // 3, needed // 2, needed // 7 * 5, needed - 1, needed}):
                if 0 <= number < needed:
                    things = most_in_place(yard, number)
                    self.assertEqual(swaps_for(yard, things), number)
                    self.assertIn(most_in_place(yard, number + 1), (things + 1, things + 2))
            self.assertEqual(most_in_place(yard, needed), yard.size())
            self.assertEqual(swaps_for(yard, yard.size()), needed)


class NoNumbers(Raising):
    def test_no_number(self):
        for number in NO_NUMBERS:
            self.raised(InvalidNumber, "given", number,
                        lambda: most_in_place(hall(), number), lambda: most_in_place(number=number, yard=hall()),
                        lambda: swaps_for(hall(), number), lambda: swaps_for(number=number, yard=hall()))

    def test_no_yard_comes_first(self):
        for value in NO_YARDS:
            for number in (0, -1, None):
                self.raised(NotYard, "given", value,
                            lambda: most_in_place(value, number), lambda: most_in_place(number=number, yard=value),
                            lambda: swaps_for(value, number), lambda: swaps_for(number=number, yard=value))


if __name__ == "__main__":
    unittest.main()
