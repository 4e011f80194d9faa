"""Orders, plans, turns and good swaps of yards that the document makes agree with one another."""

import itertools
import random
import unittest

from swapkinds.firsts import good_swaps, good_times, is_good
from swapkinds.orders import best_orders, forward, least_swaps
from swapkinds.plans import most_in_place, plan_length, swap_plan, swaps_for
from swapkinds.turns import least_bar, least_moves, most_threes, move_plan
from swapkinds.yards import Yard
from tests.samples import hall, rows_of_rings
from tests.searches import SWAPS, drawn_yards, great_yards, moves_of


def sample():
    """Yards with small and with great numbers."""
    return [hall(), *drawn_yards(20, 25), *great_yards(21, 15)]


def swaps_asked(yard):
    """Numbers of swaps, from none to more than are needed."""
    most = least_swaps(yard)
    return sorted({0, 1, 2, 3, most // 3, most // 2, most - most // 5, most, most + 4})


def things_asked(yard):
    """Numbers of things, from none to more than there are."""
    return sorted({0, 1, yard.size() - yard.out(), *(yard.size() - yard.out() // part for part in (1, 2, 3, 4, 7)),
                   yard.size() - 1, yard.size(), yard.size() + 1} - {-1})


def measures(yard):
    """All that is told in numbers that have nothing to do with names."""
    return [least_swaps(yard), len(best_orders(yard)), most_threes(yard), least_moves(yard), len(good_swaps(yard)),
            plan_length(swap_plan(yard)), plan_length(move_plan(yard)), bar_cases(yard, least_bar(yard)),
            [most_in_place(yard, number) for number in swaps_asked(yard)],
            [swaps_for(yard, number) for number in things_asked(yard)]]


def bar_cases(yard, bar):
    return sum(yard.cases(*step) for step in bar)


def all_moves(yard):
    """All swaps of a yard, each told from one of its places."""
    return [tuple(yard.kinds[at] for at in swap) for swap in moves_of(len(yard), SWAPS)]


def unordered(swap):
    """A swap, from whichever place it is told."""
    return frozenset((swap[:2], swap[2:]))


def exchanged(yard):
    """The yard with its rows and columns exchanged."""
    return Yard(yard.kinds, tuple(zip(*yard.rows)))


class Named(unittest.TestCase):
    def test_kinds_in_another_order(self):
        draw = random.Random(22)
        for yard in sample():
            at = list(range(len(yard)))
            draw.shuffle(at)
            other = Yard(tuple(yard.kinds[k] for k in at), tuple(tuple(yard.rows[k][m] for m in at) for k in at))
            self.assertEqual(measures(other), measures(yard))
            self.assertEqual(set(best_orders(other)), set(best_orders(yard)))
            self.assertEqual(set(map(unordered, good_swaps(other))), set(map(unordered, good_swaps(yard))))
            for order in itertools.permutations(yard.kinds):
                self.assertEqual(forward(other, order), forward(yard, order))
            for move in all_moves(yard):
                self.assertEqual(good_times(other, move), good_times(yard, move))

    def test_kinds_renamed(self):
        for yard in sample():
            # names that stand the other way round in the alphabet
            names = dict(zip(yard.kinds, ("z1", "y", "kinds", "a0000000")))
            other = Yard(tuple(names[kind] for kind in yard.kinds), yard.rows)

            def renamed(value):
                return names[value] if isinstance(value, str) else \
                    tuple(map(renamed, value)) if isinstance(value, tuple) else value

            self.assertEqual(measures(other), measures(yard))
            for call in (best_orders, good_swaps, swap_plan, move_plan, least_bar):
                self.assertEqual(call(other), renamed(call(yard)))
            for move in all_moves(yard):
                self.assertIs(is_good(other, renamed(move)), is_good(yard, move))


class Exchanged(unittest.TestCase):
    def test_rows_and_columns(self):
        for yard in sample():
            other = exchanged(yard)
            self.assertEqual(measures(other), measures(yard))
            self.assertEqual({order[::-1] for order in best_orders(other)}, set(best_orders(yard)))
            for order in itertools.permutations(yard.kinds):
                self.assertEqual(forward(other, order[::-1]), forward(yard, order))
            self.assertEqual(bar_cases(other, [step[::-1] for step in least_bar(yard)]), most_threes(other))
            for place, thing, other_place, other_thing in all_moves(yard):
                self.assertEqual(good_times(other, (thing, place, other_thing, other_place)),
                                 good_times(yard, (place, thing, other_place, other_thing)))


class Multiplied(unittest.TestCase):
    def test_all_numbers(self):
        for yard in [hall(), *drawn_yards(23, 25)]:
            for factor in (2, 7, 10 ** 27 + 1):
                other = Yard(yard.kinds, tuple(tuple(number * factor for number in row) for row in yard.rows))
                self.assertEqual([least_swaps(other), most_threes(other), least_moves(other)],
                                 [factor * call(yard) for call in (least_swaps, most_threes, least_moves)])
                self.assertEqual(best_orders(other), best_orders(yard))
                self.assertEqual(bar_cases(other, least_bar(yard)), most_threes(other))
                self.multiplied(yard, other, factor)

    def multiplied(self, yard, other, factor):
        for order in itertools.permutations(yard.kinds):
            self.assertEqual(forward(other, order), factor * forward(yard, order))
        for number in swaps_asked(yard):
            self.assertGreaterEqual(most_in_place(other, factor * number), factor * most_in_place(yard, number))
        for number in range(yard.size() + 1):
            self.assertLessEqual(swaps_for(other, factor * number), factor * swaps_for(yard, number))
        for move in all_moves(yard):
            times = good_times(yard, move)
            self.assertIn(good_times(other, move), range(factor * times, factor * (times + 1)))


class Together(unittest.TestCase):
    def test_two_yards(self):
        yards = [hall(), *(yard for yard in drawn_yards(24, 40) if len(yard) == 4)]
        named_alike = [Yard(("d", "b", "a", "c"), yard.rows) for yard in yards]
        sharing = 0
        for one, other in zip(named_alike, named_alike[1:]):
            both = one + other
            for order in itertools.permutations(both.kinds):
                self.assertEqual(forward(both, order), forward(one, order) + forward(other, order))
            shared = [order for order in best_orders(one) if order in best_orders(other)]
            self.assertEqual(least_swaps(both) == least_swaps(one) + least_swaps(other), bool(shared))
            self.assertLessEqual(least_swaps(both), least_swaps(one) + least_swaps(other))
            self.assertLessEqual(least_moves(both), least_moves(one) + least_moves(other))
            self.assertGreaterEqual(most_threes(both), most_threes(one) + most_threes(other))
            self.placed(one, other, both)
            if shared:
                sharing += 1
                self.assertEqual(list(best_orders(both)), shared)
                for move in all_moves(both):
                    self.assertGreaterEqual(good_times(both, move), good_times(one, move) + good_times(other, move))
        self.assertIn(sharing, range(3, len(yards) - 3))

    def placed(self, one, other, both):
        most = [[most_in_place(yard, number) for number in range(least_swaps(yard) + 1)] for yard in (one, other)]
        fewest = [[swaps_for(yard, number) for number in range(yard.size() + 1)] for yard in (one, other)]
        together = [swaps_for(both, number) for number in range(both.size() + 1)]
        for first, second in itertools.product(*map(range, map(len, most))):
            self.assertGreaterEqual(most_in_place(both, first + second), most[0][first] + most[1][second])
        for first, second in itertools.product(*map(range, map(len, fewest))):
            self.assertLessEqual(together[first + second], fewest[0][first] + fewest[1][second])

    def test_things_in_place_besides(self):
        for yard in [hall(), *drawn_yards(25, 25)]:
            calm = Yard(yard.kinds, rows_of_rings(len(yard), [], 10 ** 20))
            more = calm.size()
            self.assertEqual([least_swaps(yard + calm), most_threes(yard + calm), least_moves(yard + calm)],
                             [least_swaps(yard), most_threes(yard), least_moves(yard)])
            for call in (best_orders, good_swaps, swap_plan, move_plan, least_bar):
                self.assertEqual(call(yard + calm), call(yard))
            for number in swaps_asked(yard):
                self.assertEqual(most_in_place(yard + calm, number), more + most_in_place(yard, number))
            for number in things_asked(yard)[:-1]:
                self.assertEqual(swaps_for(yard + calm, more + number), swaps_for(yard, number))
            self.assertIsNone(swaps_for(yard + calm, more + yard.size() + 1))


class Equal(unittest.TestCase):
    def test_equal_arguments_equal_results_and_nothing_is_changed(self):
        for yard in sample():
            again = Yard.read(str(yard))
            for call in (least_swaps, best_orders, swap_plan, most_threes, least_moves, move_plan, least_bar, good_swaps):
                self.assertEqual(call(yard), call(again))
                self.assertEqual(call(yard), call(yard))
            self.assertEqual(yard, again)


if __name__ == "__main__":
    unittest.main()
