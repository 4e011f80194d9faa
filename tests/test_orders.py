"""Orders, best orders, and the fewest swaps."""

import itertools
import random
import unittest

from swapkinds.errors import InvalidOrder, NotYard
from swapkinds.orders import best_orders, forward, least_swaps
from swapkinds.rings import most_rings
from swapkinds.yards import Yard
from tests.samples import MOST, Raising, hall, rings_by_places, rows_of_rings, values_of_all_kinds
from tests.searches import KINDS, SWAPS, drawn_yards, great_yards, in_place, needed

NO_ORDERS = values_of_all_kinds() + [
    ("a", "b", "c"), ("a", "b", "c", "d", "e"), ("a", "b", "c", "d", "a"), ("a", "b", "c", "c"), ("a", "a", "b", "c"),
    ("a", "b", "c", "e"), ("w", "x", "y", "z"), ["a", "b", "c", "d"], "abcd", ("a", "b", "c", None), ("abcd",),
    ("a", "b", "c", ["d"]), ("a", "b", "c", ("d",)), (("a", "b", "c", "d"),), ("a", "b", "c", b"d"), (0, 1, 2, 3),
    {"a": 1, "b": 2, "c": 3, "d": 4}, ("a", "b", "c", "D"), ("a", "b", "c", "d "), ("a",), ("a", "b", "c", {})]
NO_ORDERS += [("a", "b", "c", value) for value in values_of_all_kinds()]
NO_ORDERS += [(value, "b", "c", "d") for value in values_of_all_kinds()]


def all_orders(yard):
    """All orders, ascending by where their kinds stand in the yard."""
    return list(itertools.permutations(yard.kinds))


def ahead(yard, order):
    """How many things lie at places of a kind that stands ahead of their own one in the order."""
    return sum(yard.cases(place, thing) for place in yard.kinds for thing in yard.kinds
               if order.index(place) < order.index(thing))


class Forward(Raising):
    def test_example(self):
        self.assertEqual(forward(hall(), ("d", "c", "b", "a")), 7)
        self.assertEqual(forward(hall(), ("a", "b", "c", "d")), 13)

    def test_one_step(self):
        # each step by itself, with a ring that brings the things back
        for place, thing in itertools.permutations(KINDS, 2):
            at, to = KINDS.index(place), KINDS.index(thing)
            rows = [[0] * 4 for _ in range(4)]
            rows[at][to] = rows[to][at] = 1
            yard = Yard(KINDS, tuple(map(tuple, rows)))
            for order in all_orders(yard):
                self.assertEqual(forward(yard, order), 1)
        turning = Yard(("a", "b", "c"), rows_of_rings(3, [((0, 1, 2), 1)], 9))
        self.assertEqual([forward(turning, order) for order in all_orders(turning)], [2, 1, 1, 2, 2, 1])

    def test_each_order_of_each_yard(self):
        for yard in [*drawn_yards(1, 60), *great_yards(2, 60)]:
            for order in all_orders(yard):
                self.assertEqual(forward(yard, order), ahead(yard, order))
                self.assertEqual(forward(order=order, yard=yard), ahead(yard, order))
                self.assertEqual(forward(yard, order) + forward(yard, order[::-1]), yard.out())

    def test_greatest_numbers(self):
        yard = Yard(KINDS, ((MOST,) * 4,) * 4)
        self.assertEqual({forward(yard, order) for order in all_orders(yard)}, {6 * MOST})
        yard = Yard(("x", "y", "z"), ((0, MOST, 7), (7, 5, MOST), (MOST, 7, 0)))
        self.assertEqual(forward(yard, ("x", "y", "z")), 2 * MOST + 7)
        self.assertEqual(forward(yard, ("z", "y", "x")), MOST + 14)

    def test_no_orders(self):
        for order in NO_ORDERS:
            self.raised(InvalidOrder, "given", order, lambda: forward(hall(), order),
                        lambda: forward(order=order, yard=hall()))
        pair = Yard(("a", "b"), ((0, 1), (1, 0)))
        for order in (("a",), ("a", "b", "c"), ("a", "a"), ("a", "b", "a"), ("a", "c"), ["a", "b"]):
            self.raised(InvalidOrder, "given", order, lambda: forward(pair, order))

    def test_no_yard_comes_first(self):
        for value in values_of_all_kinds() + [str(hall()), hall().rows, (hall(),)]:
            for order in (("a", "b", "c", "d"), (), None, 5):
                self.raised(NotYard, "given", value, lambda: forward(value, order),
                            lambda: forward(order=order, yard=value))


class BestOrders(Raising):
    def test_example(self):
        self.assertEqual((best_orders(hall())[0], len(best_orders(hall()))), (("a", "b", "c", "d"), 4))

    def test_against_all_orders(self):
        many = set()
        for yard in [*drawn_yards(3, 150), *great_yards(4, 60)]:
            counts = [ahead(yard, order) for order in all_orders(yard)]
            best = tuple(order for order, count in zip(all_orders(yard), counts) if count == max(counts))
            self.assertEqual(best_orders(yard), best)
            self.assertEqual(best_orders(yard=yard), best)
            many.add(len(best))
        self.assertGreater(len(many), 5)

    def test_all_orders_if_all_are_in_place(self):
        for count in (2, 3, 4):
            yard = Yard(KINDS[:count], rows_of_rings(count, [], 4))
            self.assertEqual(best_orders(yard), tuple(all_orders(yard)))
        self.assertEqual(best_orders(Yard(("b", "a"), ((3, MOST), (MOST, 0)))), (("b", "a"), ("a", "b")))

    def test_numbers_that_differ_in_the_last_digit(self):
        for more in (0, 1):
            parts = [((0, 1, 2), 10 ** 29 + more), ((0, 2, 1), 10 ** 29)]
            yard = Yard(("c", "a", "b"), rows_of_rings(3, parts, MOST))
            best = (("c", "a", "b"), ("a", "b", "c"), ("b", "c", "a")) if more else tuple(all_orders(yard))
            self.assertEqual(best_orders(yard), best)


class LeastSwaps(Raising):
    def test_example(self):
        self.assertEqual(least_swaps(hall()), 13)

    def test_against_a_search(self):
        seen = 0
        for sums in ((3, 3), (1, 4), (3, 3, 3), (4, 2, 3), (2, 2, 2, 2), (1, 3, 2, 2), (3, 2, 1, 3), (3, 3, 2, 3)):
            for rows, swaps in needed(sums, (SWAPS,)).items():
                self.assertEqual(least_swaps(Yard(KINDS[:len(sums)], rows)), swaps, rows)
                self.assertTrue(swaps or in_place(rows) == sum(sums))
                seen += 1
        self.assertGreater(seen, 1500)

    def test_great_numbers(self):
        for yard in great_yards(5, 150):
            most = max(ahead(yard, order) for order in all_orders(yard))
            self.assertEqual((least_swaps(yard), least_swaps(yard=yard)), (most, most))
            self.assertEqual(least_swaps(yard), yard.out() - most_rings(yard))

    def test_greatest_numbers(self):
        self.assertEqual(least_swaps(Yard(KINDS, ((MOST,) * 4,) * 4)), 6 * MOST)
        self.assertEqual(least_swaps(Yard(KINDS, rows_of_rings(4, [((0, 3, 1, 2), MOST)], MOST))), 3 * MOST)
        self.assertEqual(least_swaps(Yard(("x", "y"), ((0, MOST), (MOST, 1)))), MOST)

    def test_each_ring_by_itself(self):
        for ring in rings_by_places(4):
            for number in (1, 2, random.Random(len(ring)).randint(10 ** 28, 10 ** 29)):
                yard = Yard(KINDS, rows_of_rings(4, [(ring, number)], 3))
                self.assertEqual(least_swaps(yard), (len(ring) - 1) * number)

    def test_all_in_place(self):
        for count in (2, 3, 4):
            for many in (0, 1, MOST):
                self.assertEqual(least_swaps(Yard(KINDS[:count], rows_of_rings(count, [], many))), 0)

    def test_no_yard(self):
        for value in values_of_all_kinds() + [str(hall()), hall().rows, (hall(),)]:
            self.raised(NotYard, "given", value, lambda: least_swaps(value), lambda: least_swaps(yard=value),
                        lambda: best_orders(value), lambda: best_orders(yard=value))


if __name__ == "__main__":
    unittest.main()
