"""All that the program says of what is needed agrees, whatever was asked in between; the examples of the document."""

import itertools
import random
import unittest

from swapkinds.certificates import certify_good, certify_moves, certify_needs, certify_swaps, certify_within
from swapkinds.checker import accepts
from swapkinds.consoles import Console
from swapkinds.errors import Broken
from swapkinds.firsts import good_swaps, good_times, is_good
from swapkinds.growing import last_step, overtakes, pieces, steps_within
from swapkinds.knowing import Facts, case_range, fits, most_swaps, out_range, possible, some_rows
from swapkinds.libraries import Library
from swapkinds.mends import kept, mends
from swapkinds.orders import best_orders, forward, least_swaps
from swapkinds.plans import most_in_place, plan_length, swap_plan, swaps_for
from swapkinds.rings import is_parting, most_rings, pairs_first, ring_ranges
from swapkinds.turns import least_bar, least_moves, most_threes, move_plan
from swapkinds.works import Work
from swapkinds.yards import Yard
from tests.samples import hall
from tests.searches import SWAPS, drawn_yards, great_yards, moves_of
from tests.tables_tried import drawn_facts, drawn_ranges


def sample():
    return [hall(), *drawn_yards(150, 25), *great_yards(151, 20), Yard(("x", "y"), ((0, 0), (0, 0)))]


def known():
    """Facts that some table fits."""
    drawn = [*drawn_facts(152, 60, 3, 9, untold=0.3), *drawn_ranges(153, 40, 9),
             *drawn_facts(154, 60, 4, 9, untold=0.4)]
    return [facts for facts in drawn if possible(facts)]


def turned_round(yard):
    """A growth of the yard that has each kind once more for the next one."""
    count = len(yard)
    return tuple(tuple(int((to - at) % count == 1) for to in range(count)) for at in range(count))


def questions(yard):
    """All that can be asked of a yard, as functions without arguments."""
    swap = (yard.kinds[0], yard.kinds[1], yard.kinds[1], yard.kinds[0])
    growth = turned_round(yard)
    lines = str(yard).split("\n")[1:]
    calls = [lambda call=call: call(yard) for call in (
        str, repr, len, pairs_first, most_rings, ring_ranges, best_orders, least_swaps, swap_plan, most_threes,
        least_moves, move_plan, least_bar, good_swaps, certify_swaps, certify_moves)]
    return calls + [
        yard.out, yard.size, lambda: yard.cases(*yard.kinds[:2]), lambda: is_parting(yard, pairs_first(yard)),
        lambda: forward(yard, yard.kinds), lambda: most_in_place(yard, 5), lambda: swaps_for(yard, 5),
        lambda: is_good(yard, swap), lambda: good_times(yard, swap), lambda: last_step(yard, growth),
        lambda: pieces(yard, growth), lambda: steps_within(yard, growth, 9),
        lambda: overtakes(yard, growth, hall(), turned_round(hall())), lambda: kept(yard, ("rings", 3)),
        lambda: mends(yard, (("out", 3),), ((lines[0], lines[0]), (lines[1], "x"))), lambda: certify_good(yard, swap),
        lambda: Work(yard).left, lambda: yard.behind(swap_plan(yard)).out()]


def questions_of_facts(facts):
    """All that can be asked of facts."""
    step = facts.kinds[:2]
    return [lambda call=call: call(facts) for call in (
        repr, len, possible, some_rows, out_range, most_swaps, certify_within)] + [
        lambda: facts.bounds(*step), lambda: case_range(facts, *step), lambda: certify_needs(facts, 3),
        lambda: fits(facts, Yard(facts.kinds, some_rows(facts)))]


class Again(unittest.TestCase):
    def test_yards_asked_by_turns(self):
        """A yard that is asked all questions several times, in any order, answers as a new one does."""
        draw = random.Random(155)
        for yard in sample():
            new = [question() for question in questions(Yard(yard.kinds, yard.rows))]
            asked = list(enumerate(questions(yard))) * 3
            draw.shuffle(asked)
            for at, question in asked:
                self.assertEqual(question(), new[at])
            self.assertEqual(yard, Yard.read(str(yard)))

    def test_facts_asked_by_turns(self):
        draw = random.Random(156)
        for facts in known():
            new = [question() for question in questions_of_facts(Facts(facts.kinds, facts.lines))]
            asked = list(enumerate(questions_of_facts(facts))) * 2
            draw.shuffle(asked)
            for at, question in asked:
                self.assertEqual(question(), new[at])
            self.assertEqual(facts, Facts(facts.kinds, facts.lines))

    def test_all_yards_by_turns(self):
        """What is asked of one yard changes nothing that is told of another one."""
        yards = sample()[:12]
        first = [[question() for question in questions(yard)] for yard in yards]
        second = list(zip(*[[question() for question in row] for row in zip(*map(questions, yards))]))
        self.assertEqual(first, [list(row) for row in second])


class Agreeing(unittest.TestCase):
    def test_yards(self):
        for yard in sample():
            swaps, moves, rings = least_swaps(yard), least_moves(yard), most_rings(yard)
            self.assertEqual(swaps, yard.out() - rings)
            self.assertEqual(sum(number for _, number in pairs_first(yard)), rings)
            self.assertEqual([plan_length(swap_plan(yard)), plan_length(move_plan(yard))], [swaps, moves])
            self.assertEqual([most_in_place(yard, swaps), swaps_for(yard, yard.size())], [yard.size(), swaps])
            self.assertEqual({forward(yard, order) for order in best_orders(yard)}, {swaps})
            self.assertEqual([certify_swaps(yard)[0][2], certify_moves(yard)[0][2]], [swaps, moves])
            self.assertEqual(sum(yard.cases(*step) for step in least_bar(yard)), yard.out() - 2 * moves)
            growth = turned_round(yard)
            _, base, slope = pieces(yard, growth)[0]
            self.assertEqual(base, swaps)
            self.assertEqual(steps_within(yard, growth, swaps)[0], 0)
            grown = tuple(tuple(map(int.__add__, row, more)) for row, more in zip(yard.rows, growth))
            self.assertEqual(least_swaps(Yard(yard.kinds, grown)), base + slope)
            self.places(yard, swaps, moves, rings)

    def places(self, yard, swaps, moves, rings):
        """Wishes, a console, a library and a work say what the functions say."""
        wishes = (("swaps", swaps), ("moves", moves), ("rings", rings), ("out", yard.out()))
        library, console, work = Library(), Console(), Work(yard)
        library["h"] = yard
        for word, number in wishes:
            self.assertIs(kept(yard, (word, number)), True)
            library.wish("h", (word, number))
            other = (word, number + 1 if word == "rings" else number - 1)
            if other[1] >= 0:
                self.assertIs(kept(yard, other), False)
                with self.assertRaises(Broken):
                    library.wish("h", other)
        self.assertEqual(mends(yard, wishes, ()), ((),))
        self.assertEqual(console.do("yard h " + str(yard).replace("\n", "; ")), "put")
        self.assertEqual([console.do(f"{word} h") for word, _ in wishes], [str(number) for _, number in wishes])
        self.assertEqual(console.do("order h"), " ".join(best_orders(yard)[0]))
        self.assertEqual((work.left, work.wasted), (moves, 0))

    def test_good_swaps(self):
        for yard in sample()[:25]:
            good = good_swaps(yard)
            swaps = [tuple(yard.kinds[at] for at in swap) for swap in moves_of(len(yard), SWAPS)]
            for swap in swaps:
                self.assertEqual(is_good(yard, swap), swap in good)
                self.assertEqual(certify_good(yard, swap) is not None, swap in good)
                if swap in good:
                    behind = Work(yard)
                    behind.make(swap, good_times(yard, swap))
                    self.assertEqual(least_swaps(behind.yard), least_swaps(yard) - good_times(yard, swap))

    def test_plans_in_works_and_consoles(self):
        for yard in sample()[:25]:
            console, work = Console(), Work(yard)
            console.do("yard h " + str(yard).replace("\n", "; "))
            if least_swaps(yard) < 40:
                for swap, times in swap_plan(yard):
                    work.make(swap, times)
                    for _ in range(times):
                        self.assertEqual(console.do("swap h " + " ".join(swap)), "done")
                    self.assertEqual(console.do("moves h"), str(work.left))
                self.assertEqual((console.do("out h"), work.yard.out()), ("0", 0))

    def test_facts(self):
        for facts in known():
            yard = Yard(facts.kinds, some_rows(facts))
            most = most_swaps(facts)
            self.assertIs(fits(facts, yard), True)
            within = certify_within(facts)
            self.assertEqual(within is None, most == "endless")
            self.assertEqual([within[0][3]] if within else [], [most] if within else [])
            number = 10 ** 28 if most == "endless" else most
            (text, order) = certify_needs(facts, number)[1]
            most_yard = Yard.read(text)
            self.assertIs(fits(facts, most_yard), True)
            self.assertEqual(least_swaps(most_yard) if within else number, number)
            for other in (yard, most_yard):
                self.assertTrue(within is None or least_swaps(other) <= most)
                least_out, most_out = out_range(facts)
                self.assertTrue(least_out <= other.out() and (most_out == "endless" or other.out() <= most_out))
                for step in itertools.permutations(facts.kinds, 2):
                    least, greatest = case_range(facts, *step)
                    self.assertTrue(least <= other.cases(*step) and
                                    (greatest == "endless" or other.cases(*step) <= greatest))

    def test_facts_that_tell_a_yard(self):
        """Facts that tell each step just as it is say of it what its yard says."""
        for yard in [hall(), *drawn_yards(157, 25)]:
            lines = tuple(f"{place} {thing} is {yard.cases(place, thing)}"
                          for place, thing in itertools.permutations(yard.kinds, 2))
            facts = Facts(yard.kinds, lines)
            self.assertEqual((possible(facts), fits(facts, yard), most_swaps(facts), out_range(facts)),
                             (True, True, least_swaps(yard), (yard.out(),) * 2))
            self.assertEqual(certify_within(facts)[0][3], certify_swaps(yard)[0][2])
            self.assertIsNone(certify_needs(facts, least_swaps(yard) + 1))


class Document(unittest.TestCase):
    """The examples that use several modules, one behind another as they stand there."""

    def test_examples(self):
        seen = Facts(("a", "b", "c"), ("a b from 2 to 5", "b c most 3", "c b is 0", "a c most 4"))
        back = ((0, 0, 0, 1), (1, 0, 0, 0), (0, 1, 0, 0), (0, 0, 1, 0))
        self.assertEqual(pieces(hall(), back), ((0, 13, 1), (3, 11, 2), (5, 7, 3)))
        self.assertEqual([ring_ranges(hall()), most_rings(hall())], [((1, 3), (2, 6), (0, 2)), 7])
        self.assertEqual([len(best_orders(hall())), forward(hall(), ("d", "c", "b", "a"))], [4, 7])
        self.assertEqual(good_swaps(Yard(("x", "y"), ((0, 3), (3, 5)))), (("x", "y", "y", "x"),))
        self.assertEqual(most_swaps(seen), 12)
        self.assertEqual([accepts(*certify_within(seen)), accepts(*certify_needs(seen, 12)), certify_needs(seen, 13)],
                         [True, True, None])
        self.assertEqual([accepts(("swaps", "kinds x y\nx 0 3\ny 3 5", 3), (("x", "y"), ((("x", "y", "y", "x"), 3),))),
                          accepts(("within", ("a", "b"), ("a b most 4",), 4),
                                  ((("a", "b"), (0, 0)), (("b", "a"), (1, 0)))),
                          accepts(("swaps", str(hall()), 12), certify_swaps(hall())[1])], [True, True, False])
        self.assertEqual(most_in_place(hall(), 10 ** 30), 26)


if __name__ == "__main__":
    unittest.main()
