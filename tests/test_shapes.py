"""The tables that stand written out are those that come of going through all cases."""

import itertools
import unittest

from swapkinds import shapes
from tests.samples import rings_by_places

COUNTS = (2, 3, 4)


def cell(count, step):
    return step[0] * count + step[1]


def steps(count):
    """The cells of all steps."""
    return [cell(count, step) for step in itertools.permutations(range(count), 2)]


def rings(count, size):
    """All rings of one size with the cells of their steps, from that of the first kind on."""
    return [(ring, tuple(cell(count, step) for step in zip(ring, ring[1:] + ring[:1])))
            for ring in rings_by_places(count) if len(ring) == size]


def is_bar(count, bar):
    return all(set(bar) & set(ring) for _, ring in rings(count, 3))


def lean_bars(count):
    """All sets of steps that are bars, and are none without any one of their steps."""
    subsets = itertools.chain.from_iterable(itertools.combinations(steps(count), size) for size in range(13))
    return sorted(bar for bar in subsets if is_bar(count, bar) and
                  not any(is_bar(count, bar[:k] + bar[k + 1:]) for k in range(len(bar))))


def bars_by_rings(count):
    """All bars that come of choosing a step for each ring of three, one behind another, that has none yet."""
    found = {()}
    for _, ring in rings(count, 3):
        found = {bar if set(bar) & set(ring) else tuple(sorted((*bar, step))) for bar in found for step in ring}
    return sorted(found)


def cuts(count):
    """For each choice of some kinds, by how many they are, the steps out of it and the steps back into it."""
    chosen = [kinds for size in range(1, count) for kinds in itertools.combinations(range(count), size)]
    found = []
    for kinds in chosen:
        others = [kind for kind in range(count) if kind not in kinds]
        found.append((tuple(cell(count, (kind, other)) for kind in kinds for other in others),
                      tuple(cell(count, (other, kind)) for other in others for kind in kinds)))
    return found


def reached(count, pairs):
    """Whether all kinds are reached from the first one over these pairs."""
    kinds = {0}
    for _ in range(count):
        kinds |= {kind for pair in pairs if kinds & set(pair) for kind in pair}
    return len(kinds) == count


def rises(count, rising):
    """How much the kind behind is higher, for all heights that are told by the pairs with one of these rises."""
    pairs = list(itertools.combinations(range(count), 2))
    found = []
    for heights in itertools.product(range(-count, count + 1), repeat=count):
        row = tuple(heights[behind] - heights[ahead] for ahead, behind in pairs)
        if min(heights) == 0 and reached(count, [pair for pair, rise in zip(pairs, row) if rise in rising]):
            found.append((heights, tuple(rise + 3 for rise in row)))
    return [row for _, row in sorted(found)]


class Tables(unittest.TestCase):
    def checked(self, table, found):
        self.assertEqual(table, {count: tuple(found(count)) for count in COUNTS})

    def test_orders(self):
        self.checked(shapes.ORDERS, lambda count: sorted(itertools.permutations(range(count))))
        self.checked(shapes.FORWARD, lambda count: [
            tuple(cell(count, step) for step in itertools.combinations(order, 2)) for order in shapes.ORDERS[count]])

    def test_rings(self):
        for size, table in ((2, shapes.TWOS), (3, shapes.THREES), (4, shapes.FOURS)):
            self.checked(table, lambda count: rings(count, size))
            for count in COUNTS:
                self.assertEqual([ring for ring, _ in table[count]], sorted(ring for ring, _ in table[count]))

    def test_bars(self):
        self.checked(shapes.LEAN_BARS, lean_bars)
        self.checked(shapes.BARS, bars_by_rings)
        for count in COUNTS:
            self.assertTrue(all(is_bar(count, bar) for bar in shapes.BARS[count]))
            self.assertLessEqual(set(shapes.LEAN_BARS[count]), set(shapes.BARS[count]))

    def test_cuts(self):
        self.checked(shapes.CUTS, cuts)

    def test_rises(self):
        self.checked(shapes.FORWARD_RISES, lambda count: rises(count, (0, 1)))
        self.checked(shapes.OUT_RISES, lambda count: rises(count, (-1, 1)))

    def test_surplus(self):
        def surplus(count):
            shared = [[len(set(bar) & set(ring)) for bar in lean_bars(count)] for _, ring in rings(count, 3)]
            return [tuple((at, many - 1) for at, many in enumerate(row) if many > 1) for row in shared]

        self.checked(shapes.SURPLUS, surplus)


if __name__ == "__main__":
    unittest.main()
