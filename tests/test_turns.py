"""Rings of three, the fewest moves, plans with turns, and bars."""

import itertools
import unittest

from swapkinds.errors import NotYard
from swapkinds.plans import plan_length
from swapkinds.turns import least_bar, least_moves, most_threes, move_plan
from swapkinds.yards import Yard
from tests.samples import MOST, Raising, all_partings, hall, rings_by_places, rows_of_rings, steps_of, values_of_all_kinds
from tests.searches import KINDS, SWAPS, TURNS, drawn_yards, great_yards, needed, rows_after


def threes(parts):
    return sum(number for ring, number in parts if len(ring) == 3)


def put_right(yard, rows):
    """Whether a table has all things of the yard in place."""
    return all(rows[at][to] == 0 for at, to in itertools.permutations(range(len(yard)), 2)) and \
        [sum(row) for row in rows] == [sum(row) for row in yard.rows]


def all_bars(count):
    """All sets of steps that each ring of three has one of."""
    steps = list(itertools.permutations(range(count), 2))
    rings = [steps_of(ring) for ring in rings_by_places(count) if len(ring) == 3]
    subsets = itertools.chain.from_iterable(itertools.combinations(steps, size) for size in range(len(steps) + 1))
    return [bar for bar in subsets if all(set(bar) & set(ring) for ring in rings)]


def few_yards():
    """Yards that can be gone through, also such as have rings of three only if rings of two are not taken first."""
    yield from (yard for yard in drawn_yards(10, 120, greatest=2) if yard.out() <= 25)
    for one, other in itertools.combinations(rings_by_places(4), 2):
        yield Yard(KINDS, rows_of_rings(4, [(one, 1), (other, 2)], 1))


class Plans(Raising):
    def checked(self, yard):
        """Whether a plan and a bar show each other that there are no better ones."""
        plan = move_plan(yard)
        self.assertTrue(put_right(yard, rows_after(yard, plan)), yard.rows)
        self.assertEqual(sum(times for _, times in plan), least_moves(yard))
        self.assertEqual(plan_length(plan), least_moves(yard))
        self.assertEqual(plan == (), yard.out() == 0)
        self.assertEqual(2 * least_moves(yard), yard.out() - most_threes(yard))
        self.assertEqual(sum(yard.cases(*step) for step in least_bar(yard)), most_threes(yard))

    def test_example(self):
        self.checked(hall())
        self.assertEqual([most_threes(hall()), least_moves(hall()), plan_length(move_plan(hall())),
                          hall().behind(move_plan(hall())).out(),
                          sum(hall().cases(*step) for step in least_bar(hall()))], [6, 7, 7, 0, 6])

    def test_by_name(self):
        for call in (most_threes, least_moves, move_plan, least_bar):
            self.assertEqual(call(yard=hall()), call(hall()))

    def test_small_yards(self):
        for yard in few_yards():
            self.checked(yard)

    def test_great_yards(self):
        for yard in [*drawn_yards(11, 60, greatest=9), *great_yards(12, 200)]:
            self.checked(yard)
            self.assertEqual(yard.behind(move_plan(yard)).out(), 0)

    def test_greatest_numbers(self):
        full = Yard(KINDS, ((MOST,) * 4,) * 4)
        self.checked(full)
        self.assertEqual((most_threes(full), least_moves(full)), (4 * MOST, 4 * MOST))
        three = Yard(KINDS[:3], ((MOST,) * 3,) * 3)
        self.checked(three)
        self.assertEqual((most_threes(three), least_moves(three)), (2 * MOST, 2 * MOST))
        pair = Yard(("x", "y"), ((MOST, MOST), (MOST, 0)))
        self.checked(pair)
        self.assertEqual((most_threes(pair), least_moves(pair), least_bar(pair)), (0, MOST, ()))
        self.checked(Yard(KINDS, rows_of_rings(4, [(ring, 10 ** 28) for ring in rings_by_places(4)])))

    def test_each_ring_by_itself(self):
        for ring in rings_by_places(4):
            for number in (1, 3, 10 ** 30):
                yard = Yard(KINDS, rows_of_rings(4, [(ring, number)], 2))
                self.checked(yard)
                self.assertEqual(most_threes(yard), number if len(ring) == 3 else 0)
                self.assertEqual(least_moves(yard), len(ring) // 2 * number)

    def test_numbers_that_differ_in_the_last_digit(self):
        # three rings of two that are two of three, but for one thing more
        for more in (0, 1, 2):
            parts = [((0, 1), 10 ** 29 + more), ((1, 2), 10 ** 29), ((0, 2), 10 ** 29 + 2 * more)]
            yard = Yard(KINDS[:3], rows_of_rings(3, parts))
            self.checked(yard)
            self.assertEqual((most_threes(yard), least_moves(yard)), (2 * 10 ** 29, 2 * 10 ** 29 + 3 * more))

    def test_all_in_place(self):
        for count in (2, 3, 4):
            for many in (0, 7, MOST):
                yard = Yard(KINDS[:count], rows_of_rings(count, [], many))
                self.assertEqual((move_plan(yard), least_moves(yard), most_threes(yard)), ((), 0, 0))


class Searched(Raising):
    def test_most_threes_against_all_partings(self):
        hidden = 0
        for yard in few_yards():
            partings = all_partings(yard.rows)
            self.assertEqual(most_threes(yard), max(map(threes, partings)), yard.rows)
            most = max(sum(number for _, number in parts) for parts in partings)
            hidden += most_threes(yard) > max(threes(parts) for parts in partings if sum(dict(parts).values()) == most)
        # in many yards no parting with the most rings has the most rings of three
        self.assertGreater(hidden, 20)

    def test_least_moves_against_a_search(self):
        for sums in ((3, 4), (3, 3, 3), (2, 4, 3), (2, 2, 2, 2), (1, 3, 2, 2), (1, 1, 4, 2)):
            for rows, moves in needed(sums, (SWAPS, TURNS)).items():
                self.assertEqual(least_moves(Yard(KINDS[:len(sums)], rows)), moves, rows)


class Bars(Raising):
    def checked(self, yard, bars):
        bar, kinds = least_bar(yard), yard.kinds
        self.assertEqual({type(bar)} | {type(step) for step in bar}, {tuple})
        steps = [tuple(map(kinds.index, step)) for step in bar]
        self.assertEqual(steps, sorted(set(steps)))
        self.assertIn(tuple(steps), bars)
        counts = [sum(yard.rows[at][to] for at, to in other) for other in bars]
        self.assertEqual(sum(yard.rows[at][to] for at, to in steps), min(counts))

    def test_against_all_bars(self):
        bars = {count: dict.fromkeys(all_bars(count)) for count in (2, 3, 4)}
        for yard in [hall(), *drawn_yards(13, 60), *great_yards(14, 60), Yard(KINDS, ((0,) * 4,) * 4)]:
            self.checked(yard, bars[len(yard)])

    def test_two_kinds_have_no_ring_of_three(self):
        for rows in (((0, 3), (3, 5)), ((0, 0), (0, 0)), ((MOST, MOST), (MOST, MOST))):
            self.assertEqual(least_bar(Yard(("b", "a"), rows)), ())

    def test_kinds_stand_as_in_the_yard(self):
        # all other steps have more cases than one of each ring
        yard = Yard(("z", "a", "m"), ((0, 5, 6), (6, 0, 5), (5, 6, 0)))
        for step in least_bar(yard):
            self.assertEqual(len(set(step)), 2)
        self.assertEqual(sum(yard.cases(*step) for step in least_bar(yard)), 11)
        parts = [((0, 1), 2), ((1, 2), 9), ((0, 2), 9)]
        self.assertEqual(least_bar(Yard(("z", "a", "m"), rows_of_rings(3, parts))), (("z", "a"), ("a", "z")))


class NoYards(Raising):
    def test_no_yard(self):
        for value in values_of_all_kinds() + [str(hall()), hall().rows, (hall(),), 5]:
            for call in (most_threes, least_moves, move_plan, least_bar):
                self.raised(NotYard, "given", value, lambda: call(value), lambda: call(yard=value))


if __name__ == "__main__":
    unittest.main()
