"""The tables that stand written out are those that come of going through all cases."""

import itertools
import unittest

from swapkinds import shapes
from tests.samples import rings_by_places

COUNTS = (2, 3, 4)


def cell(count, step):
    return step[0] * count + step[1]


def steps(count):
    """The cells of all steps."""
    return [cell(count, step) for step in itertools.permutations(range(count), 2)]


def rings(count, size):
    """All rings of one size with the cells of their steps, from that of the first kind on."""
    return [(ring, tuple(cell(count, step) for step in zip(ring, ring[1:] + ring[:1])))
            for ring in rings_by_places(count) if len(ring) == size]


def is_bar(count, bar):
    return all(set(bar) & set(ring) for _, ring in rings(count, 3))


def lean_bars(count):
    """All sets of steps that are bars, and are none without any one of their steps."""
    subsets = itertools.chain.from_iterable(itertools.combinations(steps(count), size) for size in range(13))
    return sorted(bar for bar in subsets if is_bar(count, bar) and
                  not any(is_bar(count, bar[:k] + bar[k + 1:]) for k in range(len(bar))))


def bars_by_rings(count):
    """All bars that come of choosing a step for each ring of three, one behind another, that has none yet."""
    found = {()}
    for _, ring in rings(count, 3):
        found = {bar if set(bar) & set(ring) else tuple(sorted((*bar, step))) for bar in found for step in ring}
    return sorted(found)


class Tables(unittest.TestCase):
    def checked(self, table, found):
        self.assertEqual(table, {count: tuple(found(count)) for count in COUNTS})

    def test_orders(self):
        self.checked(shapes.ORDERS, lambda count: sorted(itertools.permutations(range(count))))
        self.checked(shapes.FORWARD, lambda count: [
            tuple(cell(count, step) for step in itertools.combinations(order, 2)) for order in shapes.ORDERS[count]])

    def test_rings(self):
        for size, table in ((2, shapes.TWOS), (3, shapes.THREES), (4, shapes.FOURS)):
            self.checked(table, lambda count: rings(count, size))
            for count in COUNTS:
                self.assertEqual([ring for ring, _ in table[count]], sorted(ring for ring, _ in table[count]))

    def test_bars(self):
        self.checked(shapes.LEAN_BARS, lean_bars)
        self.checked(shapes.BARS, bars_by_rings)
        for count in COUNTS:
            self.assertTrue(all(is_bar(count, bar) for bar in shapes.BARS[count]))
            self.assertLessEqual(set(shapes.LEAN_BARS[count]), set(shapes.BARS[count]))

    def test_surplus(self):
        def surplus(count):
            shared = [[len(set(bar) & set(ring)) for bar in lean_bars(count)] for _, ring in rings(count, 3)]
            return [tuple((at, many - 1) for at, many in enumerate(row) if many > 1) for row in shared]

        self.checked(shapes.SURPLUS, surplus)


if __name__ == "__main__":
    unittest.main()
