import itertools
import random
import unittest

from swapkinds.errors import NotYard
from swapkinds.rings import is_parting, most_rings, pairs_first, ring_ranges
from swapkinds.yards import Yard
from tests.samples import MOST, all_partings, hall, named, rings_by_places, rows_of_rings, values_of_all_kinds

KINDS = ("d", "b", "a", "c")


def many(parts, size=None):
    return sum(number for ring, number in parts if size is None or len(ring) == size)


def ranges_of(partings):
    """The ranges of rings by their size over those of the partings that have the most rings."""
    most = max(many(parts) for parts in partings)
    best = [parts for parts in partings if many(parts) == most]
    counts = [[many(parts, size) for parts in best] for size in (2, 3, 4)]
    return tuple((min(numbers), max(numbers)) for numbers in counts)


def least_back(rows):
    """The fewest cases of steps back, over all orders."""
    orders = itertools.permutations(range(len(rows)))
    return min(sum(rows[order[k]][at] for k in range(len(order)) for at in order[:k]) for order in orders)


def small_tables():
    """Tables of few rings: all of up to three rings of four kinds, and further ones of more."""
    for count in (2, 3, 4):
        for size in range(4 if count < 4 else 3):
            for rings in itertools.combinations_with_replacement(rings_by_places(count), size):
                yield count, rings
    draw = random.Random(20)
    for count in [2, 3, 3] * 20 + [4] * 250:
        rings = rings_by_places(count)
        liked = draw.sample(rings, min(len(rings), draw.randint(2, 5)))
        yield count, [draw.choice(liked) for _ in range(draw.randint(4, 9))]


class Small(unittest.TestCase):
    def test_against_all_partings(self):
        widened = 0
        for count, rings in small_tables():
            rows = rows_of_rings(count, [(ring, 1) for ring in rings], len(rings) // 2)
            yard, partings = Yard(KINDS[:count], rows), all_partings(rows)
            most = max(many(parts) for parts in partings)
            self.assertEqual(most_rings(yard), most)
            self.assertEqual(most_rings(yard), least_back(rows))
            self.assertEqual(ring_ranges(yard), ranges_of(partings), rows)
            self.first_checked(yard, partings)
            widened += ring_ranges(yard)[2][0] < ring_ranges(yard)[2][1]
        self.assertGreater(widened, 20)

    def first_checked(self, yard, partings):
        first, rows = pairs_first(yard), yard.rows
        self.assertIn(first, [named(parts, yard.kinds) for parts in partings])
        numbers = dict(first)
        for one, other in itertools.combinations(range(len(rows)), 2):
            pair = (yard.kinds[one], yard.kinds[other])
            self.assertEqual(numbers.get(pair, 0), min(rows[one][other], rows[other][one]))
        for parts in partings[:20]:
            self.assertIs(is_parting(yard, named(parts, yard.kinds)), True)

    def test_example(self):
        self.assertEqual(pairs_first(hall()), (
            (("a", "b"), 1), (("a", "c"), 1), (("b", "d"), 1), (("a", "b", "d"), 1), (("a", "c", "d"), 1),
            (("a", "b", "c", "d"), 2)))
        self.assertEqual([most_rings(hall()), ring_ranges(hall()), is_parting(hall(), pairs_first(hall())),
                          is_parting(hall(), ())], [7, ((1, 3), (2, 6), (0, 2)), True, False])

    def test_all_in_place(self):
        for count in (2, 3, 4):
            yard = Yard(KINDS[:count], rows_of_rings(count, [], 5))
            self.assertEqual((pairs_first(yard), most_rings(yard), ring_ranges(yard)), ((), 0, ((0, 0),) * 3))
            self.assertIs(is_parting(yard, ()), True)


class Great(unittest.TestCase):
    def test_numbers_of_thirty_digits(self):
        draw = random.Random(3)
        scale = 10 ** 28 + 7
        for _ in range(40):
            rings = draw.sample(rings_by_places(4), draw.randint(2, 5))
            parts = [(ring, draw.randint(1, 2)) for ring in rings]
            small = ranges_of(all_partings(rows_of_rings(4, parts)))
            yard = Yard(KINDS, rows_of_rings(4, [(ring, number * scale) for ring, number in parts], MOST))
            self.assertEqual(ring_ranges(yard), tuple((low * scale, high * scale) for low, high in small))
            self.assertEqual(many(pairs_first(yard)), most_rings(yard))
            self.assertIs(is_parting(yard, pairs_first(yard)), True)

    def test_both_ends_of_ranges(self):
        # the ring of four and both rings of two across it, with numbers that differ in the last digits
        for four, one, other in ((10 ** 29 + 5, 10 ** 28 + 1, 3), (10 ** 28, 10 ** 28 - 4, 3), (7, 10 ** 29, 0),
                                 (10 ** 28, 10 ** 29, 10 ** 28), (10 ** 29, 0, 0)):
            parts = [((0, 2), one), ((1, 3), other), ((0, 1, 2, 3), four)]
            yard = Yard(KINDS, rows_of_rings(4, parts))
            away = min(four, one + other)
            self.assertEqual(most_rings(yard), four + one + other)
            self.assertEqual(ring_ranges(yard), ((one + other - away, one + other), (0, 2 * away), (four - away, four)))
            taken = min(one, away)
            ends = [((0, 2), one - taken), ((1, 3), other - away + taken), ((0, 1, 2), taken),
                    ((0, 1, 3), away - taken), ((0, 2, 3), taken), ((1, 2, 3), away - taken),
                    ((0, 1, 2, 3), four - away)]
            self.assertIs(is_parting(yard, named([part for part in ends if part[1]], KINDS)), True)

    def test_greatest_numbers(self):
        yard = Yard(KINDS, ((MOST,) * 4,) * 4)
        self.assertEqual(most_rings(yard), 6 * MOST)
        self.assertEqual(ring_ranges(yard), ((6 * MOST,) * 2, (0, 0), (0, 0)))


class Partings(unittest.TestCase):
    def test_one_part_otherwise(self):
        first = pairs_first(hall())
        for at, (ring, number) in enumerate(first):
            numbers = [number + 1, number - 1, -number, True, None, str(number), (number,)]
            rings = [list(ring), ring[::-1][:-1], ring[1:] + ring[:1], ring + ring[:1], ring[:1], ring[:-1] + ("e",),
                     ring[:-1] + (None,), ring[:-1] + ring[:1]] + values_of_all_kinds()
            others = [[ring, number], (ring,), (ring, number, 0), (number, ring), ring, number] + values_of_all_kinds()
            others += [(ring, other) for other in numbers] + [(other, number) for other in rings]
            for part in others:
                self.assertIs(is_parting(hall(), first[:at] + (part,) + first[at + 1:]), False, part)
            self.assertIs(is_parting(hall(), first[:at] + first[at + 1:]), False)
            self.assertIs(is_parting(hall(), first[:at] + (first[at],) + first[at:]), False)
            self.assertIs(is_parting(hall(), first[:at] + ((ring, 0),) + first[at:]), False)

    def test_unordered(self):
        first = pairs_first(hall())
        for parts in itertools.permutations(first):
            self.assertIs(is_parting(hall(), parts), parts == first)

    def test_a_ring_twice(self):
        yard = Yard(("a", "b"), ((0, 2), (2, 0)))
        ring = ("a", "b")
        self.assertIs(is_parting(yard, ((ring, 2),)), True)
        self.assertIs(is_parting(yard, ((ring, 1), (ring, 1))), False)
        self.assertIs(is_parting(yard, ((ring, 3), (ring, -1))), False)

    def test_a_kind_twice_in_a_ring(self):
        first = pairs_first(hall())
        self.assertIs(is_parting(hall(), ((("a", "a"), 1),) + first), False)
        yard = Yard(KINDS, rows_of_rings(4, [((0, 1), 2)]))
        self.assertIs(is_parting(yard, ((("d", "b"), 2),)), True)
        self.assertIs(is_parting(yard, ((("d", "b", "d", "b"), 1),)), False)

    def test_rings_of_one_kind_and_no_rings(self):
        for first, yard in ((pairs_first(hall()), hall()), ((), Yard(("a", "b"), ((3, 0), (0, 5))))):
            self.assertIs(is_parting(yard, first), True)
            self.assertIs(is_parting(yard, ((("a",), 1),) + first), False)
            self.assertIs(is_parting(yard, (((), 1),) + first), False)
        yard = Yard(("a", "b", "c"), rows_of_rings(3, [((0, 1), 2), ((0, 1, 2), 1)]))
        self.assertIs(is_parting(yard, ((("a", "b"), 2), (("a", "b", "c"), 1))), True)
        self.assertIs(is_parting(yard, ((("a", "b"), 2), (("a", "c"), 0), (("a", "b", "c"), 1))), False)

    def test_true_is_no_number(self):
        yard = Yard(("a", "b"), ((0, 1), (1, 0)))
        self.assertIs(is_parting(yard, ((("a", "b"), 1),)), True)
        self.assertIs(is_parting(yard, ((("a", "b"), True),)), False)
        self.assertIs(is_parting(yard, ((("b", "a"), 1),)), False)
        self.assertIs(is_parting(yard, [(("a", "b"), 1)]), False)

    def test_order_of_kinds_counts(self):
        rows = rows_of_rings(4, [((0, 1), 1), ((0, 2), 1), ((1, 2, 3), 1), ((0, 3, 1, 2), 2)])
        good = ((("d", "b"), 1), (("d", "a"), 1), (("b", "a", "c"), 1), (("d", "c", "b", "a"), 2))
        self.assertIs(is_parting(Yard(KINDS, rows), good), True)
        self.assertIs(is_parting(Yard(KINDS, rows), (good[1], good[0]) + good[2:]), False)
        self.assertIs(is_parting(Yard(KINDS, rows), good[:2] + (good[3], good[2])), False)

    def test_steps_go_the_right_way(self):
        yard = Yard(("a", "b", "c"), ((0, 1, 0), (0, 0, 1), (1, 0, 0)))
        self.assertEqual(pairs_first(yard), ((("a", "b", "c"), 1),))
        self.assertIs(is_parting(yard, ((("a", "b", "c"), 1),)), True)
        self.assertIs(is_parting(yard, ((("a", "c", "b"), 1),)), False)

    def test_values_of_all_kinds(self):
        for value in values_of_all_kinds() + [hall(), 5, (5,), ((),), (((), 1),), ("ab",), ((("a",), 1),)]:
            self.assertIs(is_parting(hall(), value), False)


class NoYards(unittest.TestCase):
    def test_what_is_no_yard(self):
        for value in values_of_all_kinds() + [str(hall()), hall().rows, (hall(),)]:
            for call in (lambda: pairs_first(value), lambda: pairs_first(yard=value), lambda: most_rings(value),
                         lambda: most_rings(yard=value), lambda: ring_ranges(value), lambda: ring_ranges(yard=value),
                         lambda: is_parting(value, ()), lambda: is_parting(value=value, yard=value)):
                with self.assertRaises(NotYard) as caught:
                    call()
                self.assertIs(caught.exception.given, value)

    def test_by_name(self):
        first = pairs_first(yard=hall())
        self.assertEqual([most_rings(yard=hall()), ring_ranges(yard=hall())], [many(first), ring_ranges(hall())])
        self.assertIs(is_parting(value=first, yard=hall()), True)


if __name__ == "__main__":
    unittest.main()
