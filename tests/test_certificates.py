"""Certificates: each pair is accepted and tells the number that other functions tell, and none does for another one."""

import functools
import itertools
import random
import unittest

from swapkinds.certificates import certify_good, certify_moves, certify_needs, certify_swaps, certify_within
from swapkinds.checker import accepts
from swapkinds.errors import Impossible, InvalidMove, InvalidNumber, NotFacts, NotYard
from swapkinds.firsts import good_times
from swapkinds.knowing import Facts, fits, most_swaps, possible
from swapkinds.orders import best_orders, forward, least_swaps
from swapkinds.turns import least_moves
from swapkinds.yards import Yard
from tests.samples import MOST, NO_MOVES, Raising, hall, values_of_all_kinds
from tests.searches import KINDS, SWAPS, drawn_yards, great_yards, moves_of, needed, rows_after
from tests.tables_tried import drawn_facts, drawn_ranges, fitting, swaps_of_cells, times_over
from tests.variants import same, variants

TOLD = 10 ** 24
SEEN = Facts(("a", "b", "c"), ("a b from 2 to 5", "b c most 3", "c b is 0", "a c most 4"))
NEVER = Facts(("a", "b"), ("a b is 4", "b a most 3"))
NO_YARDS = values_of_all_kinds() + [str(hall()), hall().rows, SEEN, 5]
NO_FACTS = values_of_all_kinds() + [hall(), SEEN.lines, "a b is 1", 5]
NO_NEEDED = values_of_all_kinds() + [-1, 10 ** 28 + 1, 10 ** 40, "1", (1,), -10 ** 28]


def sample():
    return [hall(), *drawn_yards(130, 50), *great_yards(131, 60), Yard(("x", "y"), ((0, 0), (0, 3))),
            Yard(KINDS, ((MOST,) * 4,) * 4), Yard(("x", "y"), ((MOST, MOST), (MOST, 0)))]


def only_integers_and_strings(value):
    """Whether a value is of tuples, strings and integers alone, none of these of more than a thousand digits."""
    if type(value) is tuple:
        return all(map(only_integers_and_strings, value))
    return type(value) is str or type(value) is int and abs(value) < 10 ** 1000


class Pairs(Raising):
    def accepted(self, pair, word, number):
        """A pair is accepted, and is not with one more or one fewer, but where these are true likewise."""
        self.assertEqual((type(pair), len(pair)), (tuple, 2))
        claim, certificate = pair
        self.assertTrue(only_integers_and_strings(pair))
        self.assertEqual((claim[0], claim[-1]), (word, number))
        self.assertIs(accepts(claim, certificate), True, pair)
        for more in (-1, 1, 10 ** 29):
            if (word, more > 0) not in (("within", True), ("needs", False)):
                told = accepts(claim[:-1] + (number + more,), certificate)
                if word != "needs" or number == most_swaps(Facts(*claim[1:3])):
                    self.assertIs(told, False, pair)


class OfYards(Pairs):
    def test_swaps_and_moves(self):
        for yard in sample():
            for call, word, count in ((certify_swaps, "swaps", least_swaps), (certify_moves, "moves", least_moves)):
                pair = call(yard)
                self.assertEqual(pair[0], (word, str(yard), count(yard)))
                self.accepted(pair, word, count(yard))
                self.assertEqual(call(yard=yard), pair)
                self.assertLessEqual(len(pair[1][1]), 200)
            self.assertIn(certify_swaps(yard)[1][0], best_orders(yard))

    def test_good(self):
        found = [0, 0]
        for yard in sample()[:80]:
            swaps = [tuple(yard.kinds[at] for at in swap) for swap in moves_of(len(yard), SWAPS)]
            for swap in swaps[:: 1 if len(yard) < 4 else 5]:
                for move in (swap, swap[2:] + swap[:2]):
                    times = good_times(yard, move)
                    pair = certify_good(yard, move)
                    found[times > 0] += 1
                    if times == 0:
                        self.assertIsNone(pair)
                    else:
                        self.assertEqual(pair[0], ("good", str(yard), move, times))
                        self.accepted(pair, "good", times)
        self.assertGreater(min(found), 300)

    def test_good_against_a_search(self):
        tables = needed((2, 3, 2), (SWAPS,))
        for rows in sorted(tables)[::7]:
            yard = Yard(("x", "y", "z"), rows)
            for swap in moves_of(3, SWAPS):
                move = tuple(yard.kinds[at] for at in swap)
                pair = certify_good(move=move, yard=yard)
                behind = rows_after(yard, ((move, 1),))
                self.assertEqual(pair is not None, behind is not None and tables[behind] == tables[rows] - 1)

    def test_numbers_greater_than_those_of_a_yard(self):
        yard = Yard(("x", "y"), ((MOST, 5), (5, MOST)))
        pair = certify_good(yard, ("x", "y", "y", "x"))
        self.accepted(pair, "good", 5)
        self.assertEqual(pair[0], ("good", str(yard), ("x", "y", "y", "x"), 5))

    def test_turns_are_not_good(self):
        for move in (("a", "b", "b", "c", "c", "a"), ("a", "c", "c", "d", "d", "a"), ("a", "a", "b", "b")):
            self.assertIsNone(certify_good(hall(), move))

    def test_errors(self):
        for value in NO_YARDS:
            self.raised(NotYard, "given", value,
                        *(functools.partial(call, value) for call in (certify_swaps, certify_moves)),
                        lambda: certify_swaps(yard=value), lambda: certify_moves(yard=value),
                        lambda: certify_good(value, None), lambda: certify_good(move=None, yard=value))
        for value in NO_MOVES:
            self.raised(InvalidMove, "given", value, lambda: certify_good(hall(), value),
                        lambda: certify_good(move=value, yard=hall()))


class OfFacts(Pairs):
    def checked(self, facts):
        """Whether the pairs for facts show each other that most swaps are what is told."""
        most = most_swaps(facts)
        if most == "endless":
            self.assertIsNone(certify_within(facts))
            for number in (0, 7, 10 ** 27 + 1, 10 ** 28):
                self.needed(facts, number)
            return
        pair = certify_within(facts)
        self.assertEqual(pair[0], ("within", facts.kinds, facts.lines, most))
        self.assertEqual(certify_within(facts=facts), pair)
        self.accepted(pair, "within", most)
        self.assertIs(accepts(pair[0][:-1] + (most + 1,), pair[1]), True)
        self.assertEqual([order for order, _ in pair[1]], list(itertools.permutations(facts.kinds)))
        for number in {0, most // 2, most - 1, most}:
            if number >= 0:
                self.needed(facts, number)
        for number in (most + 1, most + 7, 10 ** 28):
            self.assertIsNone(certify_needs(facts, number))

    def needed(self, facts, number):
        claim, certificate = pair = certify_needs(facts, number)
        self.assertEqual(claim, ("needs", facts.kinds, facts.lines, number))
        self.assertEqual(certify_needs(number=number, facts=facts), pair)
        self.accepted(pair, "needs", number)
        yard = Yard.read(certificate[0])
        self.assertIs(fits(facts, yard), True)
        self.assertGreaterEqual(forward(yard, certificate[1]), number)
        self.assertLessEqual(max(map(max, yard.rows)), MOST)

    def test_examples(self):
        pairs = (certify_swaps(hall()), certify_moves(hall()), certify_good(hall(), ("a", "b", "b", "c")),
                 certify_within(SEEN), certify_needs(SEEN, 12))
        self.assertEqual([[accepts(*pair) for pair in pairs], [pair[0][0] for pair in pairs], pairs[0][0][2],
                          pairs[1][0][2], pairs[2][0][2:], pairs[3][0][3], certify_needs(SEEN, 13)],
                         [[True] * 5, ["swaps", "moves", "good", "within", "needs"], 13, 7,
                          (("a", "b", "b", "c"), 2), 12, None])

    def test_drawn_facts(self):
        many = {}
        drawn = [*drawn_facts(132, 90, 2, 9, untold=0.4), *drawn_facts(133, 150, 3, 6, untold=0.2), *drawn_ranges(134, 60, 9),
                 *drawn_facts(135, 400, 4, 9, untold=0.3), *drawn_facts(136, 100, 4, 9, untold=0.6)]
        for facts in drawn:
            if possible(facts):
                self.checked(facts)
                key = (len(facts.kinds), most_swaps(facts) == "endless")
                many[key] = many.get(key, 0) + 1
            else:
                self.impossible(facts)
        self.assertEqual(len(many), 6)
        self.assertGreater(min(many.values()), 3, many)

    def test_four_kinds_with_all_steps_told(self):
        """The pair of both claims shows for many facts that most swaps are right, also where no table can be tried."""
        draw = random.Random(137)
        found = 0
        for _ in range(250):
            greatest = draw.choice((3, 50, TOLD))
            lines = []
            for place, thing in itertools.permutations(KINDS, 2):
                low, high = sorted((draw.choice((0, 0, 0, draw.randint(0, greatest))), draw.randint(0, greatest)))
                lines.append(f"{place} {thing} from {low} to {high}")
            facts = Facts(KINDS, tuple(draw.sample(lines, draw.choice((12, 12, 12, 9)))))
            if possible(facts):
                found += 1
                self.checked(facts)
        self.assertGreater(found, 100)

    def test_against_all_tables(self):
        for facts in drawn_ranges(138, 40, 3):
            swaps = [swaps_of_cells(3, cells) for cells in fitting(facts, 3)]
            if not swaps:
                self.impossible(facts)
                continue
            self.assertEqual(certify_within(facts)[0][3], max(swaps))
            for number in range(max(swaps) + 3):
                self.assertEqual(certify_needs(facts, number) is None, number > max(swaps))

    def test_great_numbers(self):
        for facts in [SEEN, *drawn_facts(139, 40, 4, 9, untold=0.2), *drawn_ranges(140, 20, 9)]:
            if possible(facts):
                self.checked(times_over(facts, TOLD // 9))
        kinds = ("a", "b", "c", "d")
        self.checked(Facts(kinds,
                           tuple(f"{place} {thing} most {TOLD}" for place, thing in itertools.permutations(kinds, 2))))
        self.checked(Facts(kinds, (f"a b is {TOLD}",)))
        self.checked(Facts(kinds, (f"a b is {TOLD}", "b a is 0", "b c is 0", "c d is 0", "c b is 0", "c a most 3")))

    def test_endless(self):
        facts = Facts(("a", "b"), ("a b least 4",))
        self.assertIsNone(certify_within(facts))
        for number in (0, 3, 4, 5, 10 ** 28 - 1, 10 ** 28):
            self.needed(facts, number)

    def impossible(self, facts):
        for call in (lambda: certify_within(facts), lambda: certify_needs(facts, 0),
                     lambda: certify_needs(facts, 10 ** 28), lambda: certify_within(facts=facts)):
            with self.assertRaises(Impossible):
                call()

    def test_errors_in_their_order(self):
        self.impossible(NEVER)
        for value in NO_FACTS:
            self.raised(NotFacts, "given", value, lambda: certify_within(value), lambda: certify_within(facts=value),
                        lambda: certify_needs(value, None), lambda: certify_needs(number=0, facts=value))
        for value in NO_NEEDED:
            for facts in (SEEN, NEVER):
                self.raised(InvalidNumber, "given", value, lambda: certify_needs(facts, value),
                            lambda: certify_needs(number=value, facts=facts))


class Otherwise(Pairs):
    def test_one_part_otherwise(self):
        """What differs in one part of a pair is accepted only if it is true and a certificate likewise."""
        small = Yard(("x", "y", "z"), ((1, 2, 0), (0, 1, 2), (2, 0, 0)))
        facts = Facts(("a", "b"), ("a b from 2 to 5", "b a most 7"))
        for pair in (certify_swaps(small), certify_moves(small), certify_good(small, ("x", "y", "y", "z")),
                     certify_within(facts), certify_needs(facts, 5)):
            claim, certificate = pair
            others = [other for other in variants(certificate) if not same(other, certificate)]
            accepted = [other for other in others if accepts(claim, other)]
            self.assertLess(len(accepted), len(others) // 4)
            for other in accepted:
                self.assertTrue(only_integers_and_strings(other))
            for other in variants(claim):
                if not same(other, claim) and accepts(other, certificate):
                    self.assertTrue(claim[0] in ("within", "needs") or other[2] == claim[2][2:] + claim[2][:2], other)


if __name__ == "__main__":
    unittest.main()
