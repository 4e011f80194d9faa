"""Growth: the last step, pieces, the steps within a number of swaps, and yards that overtake one another."""

import itertools
import random
import unittest

from swapkinds.errors import InvalidGrowth, InvalidNumber, NotYard
from swapkinds.growing import last_step, overtakes, pieces, steps_within
from swapkinds.orders import least_swaps
from swapkinds.yards import Yard
from tests.samples import MOST, Raising, hall, rings_by_places, rows_of_rings, values_of_all_kinds
from tests.searches import KINDS, drawn_yards, great_yards, swaps_of_rows

BACK = ((0, 0, 0, 1), (1, 0, 0, 0), (0, 1, 0, 0), (0, 0, 1, 0))
NO_NUMBERS = values_of_all_kinds() + [-1, -10 ** 40, "1", (1,), [0]]
NO_YARDS = values_of_all_kinds() + [str(hall()), hall().rows, (hall(),), 5]
# no growths of the hall
NO_GROWTHS = values_of_all_kinds() + [
    BACK[:3], BACK + ((0, 0, 0, 0),), list(BACK), tuple(map(list, BACK)), BACK[:3] + (None,), (0,) * 4, "back",
    tuple(row[:3] for row in BACK), tuple(row + (0,) for row in BACK), BACK[:3] + ((0, 0, 1),),
    ((0, 0, 0, True), (1, 0, 0, 0), (0, 1, 0, 0), (0, 0, 1, 0)),
    ((False, 0, 0, 1), (1, 0, 0, 0), (0, 1, 0, 0), (0, 0, 1, 0)),
    ((0, 0, 0, "1"), (1, 0, 0, 0), (0, 1, 0, 0), (0, 0, 1, 0)),
    ((0, 0, 0, None), (1, 0, 0, 0), (0, 1, 0, 0), (0, 0, 1, 0)),
    # sums that differ
    ((0, 0, 0, 1), (1, 0, 0, 0), (0, 1, 0, 0), (0, 0, 2, 0)), ((0, 1, 0, 0),) + ((0,) * 4,) * 3,
    ((0, -1, 0, 0), (0, 0, 0, 0), (0, 0, 0, 0), (0, 0, 0, -1)),
    # one too much
    ((MOST + 1, 0, 0, 0),) + ((0,) * 4,) * 3, ((-MOST - 1, 0, 0, 0),) + ((0,) * 4,) * 3,
    ((0, MOST + 1, 0, 0), (MOST + 1, 0, 0, 0)) + ((0,) * 4,) * 2]


def grown(yard, growth, step):
    """The table at a step, with numbers of any size."""
    return tuple(tuple(number + step * more for number, more in zip(row, grows))
                 for row, grows in zip(yard.rows, growth))


def last_by_trying(yard, growth, limit):
    """The last step up to a limit at which no number has ever been below 0."""
    step = 0
    while step < limit and min(map(min, grown(yard, growth, step + 1))) >= 0:
        step += 1
    return step


def drawn_growth(draw, count, greatest, falling):
    """A growth made of some rings, as many of them falling as told, and of things in place."""
    rows = [[0] * count for _ in range(count)]
    for ring in draw.sample(rings_by_places(count), min(len(rings_by_places(count)), draw.randint(1, 6))):
        many = draw.randint(1, greatest) * (-1 if draw.random() < falling else 1)
        for k in range(len(ring)):
            rows[ring[k - 1]][ring[k]] += many
    for at in range(count):
        rows[at][at] = draw.choice((0, 0, draw.randint(-greatest, greatest)))
    return tuple(map(tuple, rows))


def drawn(seed, many, greatest=3, falling=0.3):
    """Yards and growths with small numbers."""
    draw = random.Random(seed)
    for yard in drawn_yards(seed, many, greatest=8, diagonal=20):
        yield yard, drawn_growth(draw, len(yard), greatest, falling)


def drawn_great(seed, many):
    """Yards and growths with numbers of up to thirty digits, also such that many steps are the same by far."""
    draw = random.Random(seed)
    for yard in great_yards(seed, many):
        greatest = draw.choice((3, 10 ** 9, 10 ** 26, 10 ** 27))
        growth = drawn_growth(draw, len(yard), greatest, draw.choice((0, 0, 0.4)))
        yield yard, tuple(tuple(number + draw.choice((-1, 0, 1)) * (at == to) for to, number in enumerate(row))
                          for at, row in enumerate(growth))


class Pieces(Raising):
    def test_example(self):
        self.assertEqual([last_step(hall(), BACK), pieces(hall(), BACK), steps_within(hall(), BACK, 19),
                          steps_within(hall(), BACK, 12)],
                         ["endless", ((0, 13, 1), (3, 11, 2), (5, 7, 3)), (0, 4), None])
        fewer = ((0, -2, 2, 0), (0, 2, -2, 0), (0, 0, 0, 0), (0, 0, 0, 0))
        self.assertEqual([last_step(hall(), fewer), overtakes(hall(), BACK, hall() + hall(), BACK)], [1, None])

    def form(self, found):
        self.assertIs(type(found), tuple)
        for piece in found:
            self.assertEqual([type(piece), *map(type, piece)], [tuple, int, int, int])
        self.assertEqual(found[0][0], 0)
        firsts = [first for first, _, _ in found]
        self.assertEqual(firsts, sorted(set(firsts)))

    def near(self, yard, growth, step, last):
        """The fewest swaps at a step against the piece that it is in."""
        if step < 0 or last is not None and step > last:
            return
        _, base, slope = [piece for piece in pieces(yard, growth) if piece[0] <= step][-1]
        rows = grown(yard, growth, step)
        self.assertEqual(base + slope * step, swaps_of_rows(rows), (yard.rows, growth, step))
        if max(map(max, rows)) <= MOST:
            self.assertEqual(least_swaps(Yard(yard.kinds, rows)), base + slope * step)

    def begun(self, yard, growth, last):
        """The slope of each piece, and that none goes on at the first step of the next one."""
        found = pieces(yard, growth)
        for first, base, slope in found:
            swaps = swaps_of_rows(grown(yard, growth, first))
            more = swaps_of_rows(grown(yard, growth, first + 1)) - swaps if first != last else 0
            self.assertEqual((slope, base), (more, swaps - more * first), (yard.rows, growth))
        for (_, base, slope), (first, _, _) in zip(found, found[1:]):
            self.assertNotEqual(base + slope * first, swaps_of_rows(grown(yard, growth, first)))
        if last is not None:
            self.assertLessEqual(found[-1][0], last)

    def checked(self, yard, growth):
        last = last_step(yard, growth)
        last = None if last == "endless" else last
        found = pieces(yard, growth)
        self.form(found)
        self.begun(yard, growth, last)
        ends = [first for first, _, _ in found] + ([last] if last is not None else [10 ** 9, 10 ** 45])
        for step in {end + beside for end in ends for beside in (-2, -1, 0, 1, 2, 3)} | {end // 2 for end in ends}:
            self.near(yard, growth, step, last)
        return len(found)

    def test_small(self):
        many = [0] * 9
        for yard, growth in drawn(30, 250):
            # all first steps, so that no step is passed over
            last = last_by_trying(yard, growth, 60)
            self.assertEqual(last_step(yard, growth), last if last < 60 else "endless")
            for step in range(min(last, 30) + 1):
                self.near(yard, growth, step, last if last < 60 else None)
            many[self.checked(yard, growth)] += 1
        self.assertTrue(all(many[1:4]), many)

    def test_great(self):
        many = [self.checked(yard, growth) for yard, growth in drawn_great(31, 250)]
        self.assertGreater(max(many), 3)

    def test_pieces_of_no_order(self):
        """Where orders are best for one step each, a piece goes from one to the other."""
        many = 0
        for yard, growth in drawn(41, 300):
            orders = list(itertools.permutations(range(len(yard))))
            slopes = {sum(growth[order[at]][to] for at in range(len(order)) for to in order[at + 1:])
                      for order in orders}
            found = pieces(yard, growth)
            last = last_step(yard, growth)
            between = [piece for piece in found if piece[2] not in slopes and piece[0] != last]
            if between:
                many += 1
                self.checked(yard, growth)
        self.assertGreater(many, 2)

    def test_last_step_is_0(self):
        yard = Yard(("x", "y"), ((5, 3), (3, 1)))
        for growth in (((0, -4), (-4, 0)), ((-6, 0), (0, 0)), ((0, 0), (0, -2)), ((0, -MOST), (-MOST, 0))):
            self.assertEqual((last_step(yard, growth), pieces(yard, growth)), (0, ((0, 3, 0),)))
            self.assertEqual([steps_within(yard, growth, number) for number in (2, 3, 4)], [None, (0, 0), (0, 0)])

    def test_a_number_goes_to_0_and_not_below(self):
        yard = Yard(("x", "y"), ((5, 9), (9, 1)))
        self.assertEqual(last_step(yard, ((0, -3), (-3, 0))), 3)
        self.assertEqual(pieces(yard, ((0, -3), (-3, 0))), ((0, 9, -3),))
        self.assertEqual(last_step(yard, ((0, -4), (-4, 0))), 2)
        self.assertEqual(last_step(yard, ((-1, 0), (0, 0))), 5)
        self.assertEqual(last_step(yard, ((-5, 7), (7, 0))), 1)

    def test_no_growth_at_all(self):
        for yard in [hall(), *drawn_yards(32, 10)]:
            none = ((0,) * len(yard),) * len(yard)
            self.assertEqual((last_step(yard, none), pieces(yard, none)), ("endless", ((0, least_swaps(yard), 0),)))
            self.assertEqual(steps_within(yard, none, least_swaps(yard)), (0, "endless"))
            self.assertEqual(steps_within(yard, none, least_swaps(yard) + 10 ** 35), (0, "endless"))
            if least_swaps(yard):
                self.assertIsNone(steps_within(yard, none, least_swaps(yard) - 1))

    def test_numbers_that_differ_in_the_last_digit(self):
        # 10 ** 29 steps long one order is best, and then the other one
        yard = Yard(("x", "y", "z"), ((0, 10 ** 29, 0), (0, 0, 10 ** 29), (10 ** 29, 0, 0)))
        self.assertEqual(least_swaps(yard), 2 * 10 ** 29)
        growth = ((0, 0, 1), (1, 0, 0), (0, 1, 0))
        self.assertEqual(pieces(yard, growth), ((0, 2 * 10 ** 29, 1), (10 ** 29 + 1, 10 ** 29, 2)))
        self.assertEqual(pieces(yard=yard, growth=growth), pieces(yard, growth))
        self.checked(yard, growth)

    def test_later_and_more_often(self):
        for yard, growth in [*drawn(33, 60), *drawn_great(34, 40)]:
            last = last_step(yard, growth)
            for late in (1, 2, 5):
                rows = grown(yard, growth, late)
                if (last == "endless" or last >= late) and max(map(max, rows)) <= MOST:
                    self.later(yard, growth, Yard(yard.kinds, rows), late)
            for often in (2, 3):
                more = tuple(tuple(often * number for number in row) for row in growth)
                if max(abs(number) for row in more for number in row) <= MOST:
                    self.more_often(yard, growth, more, often)

    def later(self, yard, growth, other, late):
        last = last_step(yard, growth)
        self.assertEqual(last_step(other, growth), last if last == "endless" else last - late)
        for first, base, slope in pieces(other, growth):
            for step in (first, first + 1):
                if last == "endless" or step + late <= last:
                    self.near(yard, growth, step + late, None)
                    self.assertEqual(swaps_of_rows(grown(yard, growth, step + late)), base + slope * step)

    def more_often(self, yard, growth, more, often):
        last = last_step(yard, growth)
        self.assertEqual(last_step(yard, more), last if last == "endless" else last // often)
        for first, base, slope in pieces(yard, more):
            self.assertEqual(swaps_of_rows(grown(yard, growth, first * often)), base + slope * first)

    def test_growth_is_judged(self):
        for value in NO_GROWTHS:
            self.raised(InvalidGrowth, "given", value, lambda: last_step(hall(), value), lambda: pieces(hall(), value),
                        lambda: last_step(growth=value, yard=hall()), lambda: pieces(growth=value, yard=hall()),
                        lambda: steps_within(hall(), value, -1), lambda: steps_within(hall(), value, 5))
        for value in NO_YARDS:
            self.raised(NotYard, "given", value, lambda: last_step(value, None), lambda: pieces(value, None),
                        lambda: last_step(growth=BACK, yard=value), lambda: pieces(growth=BACK, yard=value),
                        lambda: steps_within(value, BACK[:2], -1), lambda: steps_within(value, BACK, 5))
        most = ((MOST, -MOST, 0, 0), (-MOST, MOST, 0, 0), (0, 0, -MOST, MOST), (0, 0, MOST, -MOST))
        self.assertEqual(last_step(hall(), most), 0)


class Within(Raising):
    def test_small(self):
        for yard, growth in drawn(35, 200):
            last = last_by_trying(yard, growth, 60)
            swaps = [swaps_of_rows(grown(yard, growth, step)) for step in range(min(last, 60) + 1)]
            for number in sorted({0, 1, min(swaps) - 1, min(swaps), swaps[0], swaps[-1] - 1, 7} - {-1}):
                steps = [step for step, many in enumerate(swaps) if many <= number]
                end = "endless" if steps and last == 60 and steps[-1] == 60 else steps[-1] if steps else None
                self.assertEqual(steps_within(yard, growth, number), (steps[0], end) if steps else None)

    def test_great(self):
        found = 0
        for yard, growth in drawn_great(36, 200):
            last, swaps = last_step(yard, growth), least_swaps(yard)
            for number in (0, swaps - 1, swaps, swaps + 1, swaps // 2, swaps + 10 ** 31, swaps * 7, 10 ** 60):
                if number >= 0:
                    found += self.ends(yard, growth, number, last)
        self.assertGreater(found, 100)

    def ends(self, yard, growth, number, last):
        """Both ends of the steps, and the steps beside them."""
        def many(step):
            return swaps_of_rows(grown(yard, growth, step))

        steps = steps_within(yard, growth, number)
        if steps is None:
            beside = {step for first, _, _ in pieces(yard, growth) for step in (first - 1, first, first + 1)} | {last}
            for step in beside - {-1, "endless"}:
                self.assertTrue(many(step) > number or last != "endless" and step > last)
            return False
        first, end = steps
        self.assertLessEqual(many(first), number)
        self.assertTrue(first == 0 or many(first - 1) > number)
        if end == "endless":
            self.assertEqual(last, end)
            self.assertLessEqual(many(10 ** 70), number)
        else:
            self.assertLessEqual(many(end), number)
            self.assertTrue(end == last or many(end + 1) > number)
        return True

    def test_numbers(self):
        for value in NO_NUMBERS:
            self.raised(InvalidNumber, "given", value, lambda: steps_within(hall(), BACK, value),
                        lambda: steps_within(number=value, growth=BACK, yard=hall()))
        self.assertEqual(steps_within(number=19, growth=BACK, yard=hall()), (0, 4))


class Overtaking(Raising):
    def by_trying(self, one, growth, other, second, limit):
        """The first step, up to a limit, at which the one needs more than the other one, and if there are so many."""
        last = min(last_by_trying(one, growth, limit), last_by_trying(other, second, limit))
        for step in range(last + 1):
            if swaps_of_rows(grown(one, growth, step)) > swaps_of_rows(grown(other, second, step)):
                return step
        return None

    def test_small(self):
        found = {None: 0}
        sample = list(drawn(37, 250, falling=0.2))
        for (one, growth), (other, second) in zip(sample, sample[1:]):
            step = self.by_trying(one, growth, other, second, 80)
            self.assertEqual(overtakes(one, growth, other, second), step, (one.rows, growth, other.rows, second))
            found[step] = found.get(step, 0) + 1
        self.assertGreater(found[None], 20)
        self.assertGreater(len(found), 6)

    def test_great(self):
        found = 0
        sample = list(drawn_great(38, 250))
        for (one, growth), (other, second) in zip(sample, sample[1:]):
            step = overtakes(one, growth, other, second)
            lasts = [last for last in (last_step(one, growth), last_step(other, second)) if last != "endless"]

            def ahead(at):
                return swaps_of_rows(grown(one, growth, at)) > swaps_of_rows(grown(other, second, at))

            # between these steps nothing bends, so none overtakes there if it does at neither end
            bends = sorted({at + beside for found in (pieces(one, growth), pieces(other, second))
                            for at, _, _ in found for beside in (-1, 0, 1)} | set(lasts) | {10 ** 70})
            bends = [at for at in bends if at >= 0 and all(at <= last for last in lasts)]
            if step is None:
                self.assertFalse(any(map(ahead, bends)))
            else:
                self.assertTrue(ahead(step) and all(step <= last for last in lasts))
                self.assertFalse(any(ahead(at) for at in [*bends, step - 1] if 0 <= at < step))
                found += step > 0
        self.assertGreater(found, 20)

    def test_far_away(self):
        one = Yard(("x", "y"), ((0, 0), (0, 0)))
        other = Yard(("p", "q", "r"), ((0, MOST, 0), (MOST, 0, 0), (0, 0, 0)))
        grows, calm = ((0, 1), (1, 0)), ((0, 0, 0),) * 3
        self.assertEqual(overtakes(one, grows, other, calm), MOST + 1)
        self.assertEqual(overtakes(one=one, growth=grows, other=other, second=calm), MOST + 1)
        self.assertEqual(overtakes(other, calm, one, grows), 0)
        self.assertIsNone(overtakes(one, grows, other, ((0, 1, 0), (1, 0, 0), (0, 0, 0))))
        # the last step that both have
        ends = ((0, 0, 0), (0, 0, 0), (0, 0, -1))
        for many, step in ((MOST, None), (0, None)):
            yard = Yard(("p", "q", "r"), ((0, MOST, 0), (MOST, 0, 0), (0, 0, many)))
            self.assertEqual(overtakes(one, grows, yard, ends), step)
        fewer = Yard(("p", "q", "r"), ((0, 7, 0), (7, 0, 0), (0, 0, 8)))
        self.assertEqual(overtakes(one, grows, fewer, ends), 8)
        fewer = Yard(("p", "q", "r"), ((0, 7, 0), (7, 0, 0), (0, 0, 7)))
        self.assertIsNone(overtakes(one, grows, fewer, ends))

    def test_equal_is_not_more(self):
        for yard, growth in drawn(39, 30):
            self.assertIsNone(overtakes(yard, growth, yard, growth))

    def test_order_of_the_errors(self):
        for value in NO_YARDS:
            self.raised(NotYard, "given", value, lambda: overtakes(value, None, None, None),
                        lambda: overtakes(hall(), BACK, value, None),
                        lambda: overtakes(other=value, one=hall(), growth=BACK, second=BACK))
        for value in NO_GROWTHS:
            self.raised(InvalidGrowth, "given", value, lambda: overtakes(hall(), value, None, None),
                        lambda: overtakes(hall(), BACK, hall(), value),
                        lambda: overtakes(second=value, other=hall(), growth=BACK, one=hall()))
        small = Yard(("x", "y"), ((0, 1), (1, 0)))
        self.raised(InvalidGrowth, "given", BACK, lambda: overtakes(hall(), BACK, small, BACK),
                    lambda: overtakes(small, BACK, hall(), BACK))


if __name__ == "__main__":
    unittest.main()
