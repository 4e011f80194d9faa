"""Facts: their forms, the tables that fit them, and what is told of all of these."""

import functools
import itertools
import random
import unittest

from swapkinds.errors import Impossible, InvalidFacts, InvalidKind, InvalidKinds, NotFacts, NotYard, OtherKinds
from swapkinds.knowing import Facts, case_range, fits, most_swaps, out_range, possible, some_rows
from swapkinds.orders import least_swaps
from swapkinds.yards import Yard
from tests.samples import MOST, Agreeing, Raising, hall, values_of_all_kinds
from tests.searches import KINDS
from tests.tables_tried import balanced_cells, drawn_facts, fitting, has_endless_ring, rows_of, step_bounds
from tests.tables_tried import swaps_of_cells, times_over, with_mosts

TOLD = 10 ** 24
SEEN = Facts(("a", "b", "c"), ("a b from 2 to 5", "b c most 3", "c b is 0", "a c most 4"))
NO_FACTS = values_of_all_kinds() + ["a b is 1", ("a b is 1",), (SEEN,), hall(), 5]
# no facts about a, b and c
WRONG_LINES = values_of_all_kinds() + [
    "a", "b", "a ", " a", "a b", "a b is", "a b is ", "a b is 1 ", " a b is 1", "a  b is 1", "a b  is 1", "a b is  1", "a b is 01",
    "a b is 00", "a b is -1", "a b is +1", "a b is 1.0", "a b is x", "a b is 1\n", "a b is 1\n2", "a b\nis 1",
    "a b Is 1", "a b IS 1", "A b is 1", "a a is 1", "a d is 1", "d a is 1", "b is 1", "a b c is 1", "a b is 1 2",
    "a b is 1 to 2", "a b was 1", "a b 1", "a is 1", "a b least", "a b most", "a b least -1", "a b least 1 2",
    "a b at least 1", "a b least x", "a b most 007", "a b Most 1", "a b from 1", "a b from 1 to", "a b from 1 to ",
    "a b from 2 to 1", "a b from 1 until 2", "a b from 1 to 2 ", "a b from 1 to 02", "a b from 01 to 2",
    "a b from 1 To 2", "a b to 2", "a b to 2 from 1", "a b from to 2", "a b from x to 2", "a b from 1 to y",
    "a b from 1 to 2 to 3", "a b from 1 is 2", "a b is 1 is 1", "a b least 1 most 2", "a b is 1_0",
    "a b is " + str(TOLD + 1), "a b least " + str(TOLD + 1), "a b most 1" + "0" * 25, "a b from 1 to " + str(TOLD + 1),
    "a b is " + "9" * 200, "a\tb\tis\t1", "a b is 1;", "a b is 1 b c is 1", b"a b is 1", ["a b is 1"], ("a b is 1",),
    ("a", "b", "is", 1), "ab is 1", "a b is0", "a b most0 1"]


class Made(Raising):
    def test_example(self):
        self.assertEqual([possible(SEEN), SEEN.bounds("b", "c"), case_range(SEEN, "c", "a"), case_range(SEEN, "b", "a"),
                          out_range(SEEN), most_swaps(SEEN)], [True, (0, 3), (0, 7), (0, 5), (4, 21), 12])
        self.assertEqual([most_swaps(Facts(("a", "b"), ("a b least 4",))),
                          some_rows(Facts(("a", "b"), ("a b is 4", "b a most 3"))),
                          fits(SEEN, Yard(("a", "b", "c"), ((9, 2, 0), (2, 0, 0), (0, 0, 1))))],
                         ["endless", None, True])

    def test_kinds_and_lines(self):
        kinds, lines = ("x", "is", "most"), ("x is is 0", f"is x from 3 to {TOLD}", "most x most 4", "x most least 7")
        facts = Facts(kinds, lines)
        self.assertIs(facts.kinds, kinds)
        self.assertIs(facts.lines, lines)
        self.assertEqual((len(facts), repr(facts), repr(Facts(("a", "b"), ("a b is 0",)))),
                         (4, "Facts about 3 kinds", "Facts about 2 kinds"))
        self.assertEqual([facts.bounds("x", "is"), facts.bounds("is", "x"), facts.bounds("most", "x"),
                          facts.bounds("x", "most"), facts.bounds("is", "most")],
                         [(0, 0), (3, TOLD), (0, 4), (7, None), (0, None)])
        self.assertTrue(facts)
        self.assertEqual(Facts(lines=lines, kinds=kinds), facts)

    def test_equal(self):
        lines = ("a b is 1", "b a most 2")
        facts = Facts(("a", "b", "c"), lines)
        self.assertTrue(facts == Facts(("a", "b", "c"), ("a b is 1", "b a most 2")))
        self.assertFalse(facts != Facts(("a", "b", "c"), ("a b is 1", "b a most 2")))
        others = [Facts(("a", "b", "c"), lines[::-1]), Facts(("b", "a", "c"), lines), Facts(("a", "b"), lines),
                  Facts(("a", "b", "c"), ("a b from 1 to 1", "b a most 2")), Facts(("a", "b", "c"), lines[:1]),
                  *values_of_all_kinds(), lines, hall(), (("a", "b", "c"), lines)]
        for other in others:
            self.assertIs(facts == other, False)
            self.assertIs(facts != other, True)

    def test_kinds_are_judged(self):
        for value in values_of_all_kinds() + [("a",), ["a", "b"], "ab", {"a": 1, "b": 2}]:
            self.raised(InvalidKinds, "index", None, lambda: Facts(value, None), lambda: Facts(lines=(), kinds=value))
        for kinds, at in ((("a", "a"), 1), (("a", "B"), 1), ((1, "b"), 0), (("a", "b", "c", "d", "e"), 4),
                          (("a", "b", "c", "d", "a"), 4), (("a", "b", "", "d", "e"), 2), (("a", None), 1),
                          (("a" * 9, "b"), 0), (("a", "b", Agreeing()), 2), (("1a", "b"), 0)):
            self.raised(InvalidKinds, "index", at, lambda: Facts(kinds, ()), lambda: Facts(kinds, ("a b is 1",)))

    def test_lines_are_judged(self):
        kinds = ("a", "b", "c")
        for value in values_of_all_kinds() + [["a b is 1"], "a b is 1", {"a b is 1": 1}, ()]:
            self.raised(InvalidFacts, "index", None, lambda: Facts(kinds, value))
        self.raised(InvalidFacts, "index", None, lambda: Facts(kinds, ()), lambda: Facts(lines=(), kinds=kinds))
        for line in WRONG_LINES:
            self.raised(InvalidFacts, "index", 0, lambda: Facts(kinds, (line,)), lambda: Facts(kinds, (line,) * 13))
            self.raised(InvalidFacts, "index", 2, lambda: Facts(kinds, ("a b is 1", "b a least 0", line, None)))
            self.raised(InvalidFacts, "index", 11, lambda: Facts(kinds, ("a b is 1",) * 11 + (line, "a b is 1")))

    def test_thirteen_facts(self):
        kinds = ("a", "b", "c")
        self.assertEqual(len(Facts(kinds, ("a b is 1",) * 12)), 12)
        for more in (("a b is 1",), (None,), ("x",), ("a b is 1", "x"), ("a b is 1",) * 30):
            self.raised(InvalidFacts, "index", 12, lambda: Facts(kinds, ("a b is 1",) * 12 + more))

    def test_forms(self):
        for number in (0, 1, 9, 10, 123, TOLD - 1, TOLD):
            told = {f"is {number}": (number, number), f"from {number} to {TOLD}": (number, TOLD),
                    f"from 0 to {number}": (0, number), f"least {number}": (number, None),
                    f"most {number}": (0, number), f"from {number} to {number}": (number, number)}
            for words, bounds in told.items():
                facts = Facts(("kinds", "from", "to"), (f"from to {words}",))
                self.assertEqual(facts.bounds("from", "to"), bounds)
                self.assertEqual(facts.bounds(thing="to", place="from"), bounds)
                self.assertEqual(facts.bounds("to", "from"), (0, None))

    def test_several_facts_about_one_step(self):
        for facts in drawn_facts(60, 200, 2, 9):
            self.assertEqual([list(facts.bounds(*step)) for step in itertools.permutations(facts.kinds, 2)],
                             step_bounds(facts))
        contrary = Facts(("a", "b"), ("a b least 7", "b a is 3", "a b most 2", "a b from 1 to 9"))
        self.assertEqual(contrary.bounds("a", "b"), (7, 2))
        self.assertIs(possible(contrary), False)

    def test_bounds_are_of_steps(self):
        for value in values_of_all_kinds() + ["d", "A", "a b", ("a",), "kinds", 0]:
            self.raised(InvalidKind, "given", value, lambda: SEEN.bounds(value, value), lambda: SEEN.bounds("a", value),
                        lambda: SEEN.bounds(value, "a"), lambda: SEEN.bounds(thing="z", place=value),
                        lambda: case_range(SEEN, value, None), lambda: case_range(SEEN, "a", value))
        for kind in "abc":
            self.raised(InvalidKind, "given", kind, lambda: SEEN.bounds(kind, kind),
                        lambda: case_range(SEEN, kind, kind),
                        lambda: case_range(place=kind, thing=kind, facts=SEEN))


class Searched(Raising):
    def checked(self, facts, cells):
        """All that is told of facts against all tables that fit, no other one having a number outside theirs."""
        count = len(facts.kinds)
        self.assertIs(possible(facts), bool(cells), facts.lines)
        rows = some_rows(facts)
        if not cells:
            self.assertIsNone(rows)
            self.impossible(facts)
            return
        self.fitting_rows(facts, rows)
        for at, step in enumerate(itertools.permutations(facts.kinds, 2)):
            numbers = [found[at] for found in cells]
            self.assertEqual(case_range(facts, *step), (min(numbers), max(numbers)), facts.lines)
        sums = list(map(sum, cells))
        self.assertEqual(out_range(facts), (min(sums), max(sums)), facts.lines)
        self.assertEqual(most_swaps(facts), max(swaps_of_cells(count, found) for found in cells), facts.lines)

    def fitting_rows(self, facts, rows):
        count = len(facts.kinds)
        self.assertEqual([type(rows), *map(type, rows)], [tuple] * (count + 1))
        self.assertEqual([type(number) for row in rows for number in row], [int] * count ** 2)
        self.assertEqual([sum(row) for row in rows], [sum(column) for column in zip(*rows)])
        self.assertEqual([rows[at][at] for at in range(count)], [0] * count)
        for (at, to), (low, high) in zip(itertools.permutations(range(count), 2), step_bounds(facts)):
            self.assertTrue(low <= rows[at][to] and (high is None or rows[at][to] <= high))

    def impossible(self, facts):
        for call in (out_range, most_swaps):
            with self.assertRaises(Impossible):
                call(facts)
            with self.assertRaises(Impossible):
                call(facts=facts)
        with self.assertRaises(Impossible):
            case_range(facts, facts.kinds[0], facts.kinds[1])
        self.raised(InvalidKind, "given", "z", lambda: case_range(facts, "z", None),
                    lambda: case_range(facts, facts.kinds[0], "z"))

    def test_two_kinds(self):
        for facts in drawn_facts(61, 300, 2, 7):
            facts = with_mosts(facts, 7)
            self.checked(facts, fitting(facts, 7))

    def test_three_kinds(self):
        many = [0, 0]
        for facts in drawn_facts(62, 400, 3, 4):
            facts = with_mosts(facts, 4)
            if facts:
                cells = fitting(facts, 4)
                many[bool(cells)] += 1
                self.checked(facts, cells)
        self.assertGreater(min(many), 50)

    def test_four_kinds(self):
        draw = random.Random(63)
        many = [0, 0]
        for _ in range(250):
            lines = []
            for place, thing in itertools.permutations(KINDS, 2):
                low, high = sorted((draw.choice((0, 0, 0, 0, 1, 2)), draw.randint(0, 2)))
                told = (f"from {low} to {high}", f"is {low}" if low == high else f"most {high}", f"most {high}")
                lines.append(f"{place} {thing} " + draw.choice(told))
            facts = Facts(KINDS, tuple(lines))
            cells = fitting(facts, 2)
            many[bool(cells)] += 1
            self.checked(facts, cells)
        self.assertGreater(min(many), 20)

    def test_steps_without_most(self):
        """Where the facts about other steps let a step have no more than is gone through."""
        ended = 0
        for facts in drawn_facts(64, 300, 3, 2, untold=0.4):
            if possible(facts) and has_endless_ring(facts):
                self.assertEqual((most_swaps(facts), out_range(facts)[1]), ("endless", "endless"))
            else:
                told = sum(high for _, high in step_bounds(facts) if high is not None)
                if told <= 5 or not possible(facts):
                    ended += possible(facts)
                    self.checked(facts, fitting(facts, 5) if told <= 5 else [])
        self.assertGreater(ended, 30)

    def test_great_numbers(self):
        """All answers are as many times as great if all numbers are."""
        for facts in [*drawn_facts(65, 60, 3, 9, untold=0.3), *drawn_facts(66, 100, 4, 9, untold=0.3)]:
            for factor in (3, TOLD // 9):
                self.times(facts, times_over(facts, factor), factor)

    def times(self, facts, other, factor):
        def over(value):
            return value if value == "endless" else value * factor

        self.assertIs(possible(other), possible(facts))
        if possible(facts):
            self.fitting_rows(other, some_rows(other))
            for step in itertools.permutations(facts.kinds, 2):
                self.assertEqual(case_range(other, *step), tuple(map(over, case_range(facts, *step))))
            self.assertEqual(out_range(other), tuple(map(over, out_range(facts))))
            self.assertEqual(most_swaps(other), over(most_swaps(facts)))

    def test_greatest_numbers(self):
        kinds = ("a", "b", "c", "d")
        all_most = Facts(kinds, tuple(f"{place} {thing} from 7 to {TOLD}"
                                      for place, thing in itertools.permutations(kinds, 2)))
        self.assertEqual([case_range(all_most, "a", "d"), out_range(all_most), most_swaps(all_most)],
                         [(7, TOLD), (84, 12 * TOLD), 6 * TOLD])
        # what must be is far more than what is told of any one step
        ring = Facts(kinds, ("a b is 0", "a c is 0", "b a least 5", f"c a least {TOLD}", f"b c most {TOLD}"))
        self.assertEqual(case_range(ring, "a", "d"), (TOLD + 5, "endless"))


class Endless(Raising):
    def test_case_ranges(self):
        """A step has no greatest number exactly if a ring that it is in has no most cases told."""
        found = [0, 0]
        for facts in [*drawn_facts(67, 150, 3, 5, untold=0.6), *drawn_facts(68, 150, 4, 5, untold=0.7)]:
            if not possible(facts):
                continue
            highs = dict(zip(itertools.permutations(facts.kinds, 2), step_bounds(facts)))
            for place, thing in highs:
                rings = [ring for size in (2, 3, 4) for ring in itertools.permutations(facts.kinds, size)
                         if ring[:2] == (place, thing)]
                open_rings = [ring for ring in rings
                              if all(highs[ring[k - 1], ring[k]][1] is None for k in range(len(ring)))]
                least, most = case_range(facts, place, thing)
                self.assertIs(type(least), int)
                self.assertEqual(most == "endless", bool(open_rings))
                found[bool(open_rings)] += 1
            self.assertEqual(most_swaps(facts) == "endless", has_endless_ring(facts))
            self.assertEqual(out_range(facts)[1] == "endless", has_endless_ring(facts))
        self.assertGreater(min(found), 100)

    def test_no_end_of_one_step_only(self):
        facts = Facts(("a", "b", "c"), ("a b least 3", "b a most 2", "c b is 0", "a c is 0"))
        self.assertEqual([case_range(facts, "a", "b"), case_range(facts, "b", "a"), most_swaps(facts)],
                         [(3, "endless"), (0, 2), "endless"])
        facts = Facts(("a", "b", "c"), ("a b least 3", "b a most 2", "c b is 0", "a c is 0", f"c a most {TOLD}"))
        self.assertEqual([case_range(facts, "a", "b"), case_range(facts, "b", "c"), most_swaps(facts),
                          out_range(facts)], [(3, TOLD + 2), (1, TOLD), 2 * TOLD + 2, (7, 3 * TOLD + 4)])


class Fitting(Raising):
    def test_against_the_bounds(self):
        draw = random.Random(69)
        found = [0, 0]
        for facts in [*drawn_facts(70, 60, 3, 3, untold=0.5), *drawn_facts(71, 60, 2, 3, untold=0.2)]:
            count = len(facts.kinds)
            for cells in draw.sample(balanced_cells(count, 3), min(40, len(balanced_cells(count, 3)))):
                rows = rows_of(count, cells)
                for at in range(count):
                    rows[at][at] = draw.choice((0, 7, MOST))
                yard = Yard(facts.kinds, tuple(map(tuple, rows)))
                fit = all(low <= number and (high is None or number <= high)
                          for number, (low, high) in zip(cells, step_bounds(facts)))
                self.assertIs(fits(facts, yard), fit)
                self.assertIs(fits(yard=yard, facts=facts), fit)
                found[fit] += 1
        self.assertGreater(min(found), 50)

    def test_some_rows_fit_and_need_no_more_than_is_told(self):
        for facts in [*drawn_facts(72, 60, 3, 9, untold=0.3), *drawn_facts(73, 60, 4, 9, untold=0.3)]:
            if possible(facts):
                yard = Yard(facts.kinds, some_rows(facts))
                self.assertIs(fits(facts, yard), True)
                least, most = out_range(facts)
                self.assertTrue(least <= yard.out() and (most == "endless" or yard.out() <= most))
                self.assertTrue(most_swaps(facts) == "endless" or least_swaps(yard) <= most_swaps(facts))

    def test_greatest_yard(self):
        yard = Yard(("a", "b"), ((0, MOST), (MOST, 0)))
        self.assertIs(fits(Facts(("a", "b"), (f"a b least {TOLD}",)), yard), True)
        self.assertIs(fits(Facts(("a", "b"), (f"a b most {TOLD}",)), yard), False)

    def test_other_kinds(self):
        lines = ("a b least 1",)
        for kinds in (("b", "a"), ("a", "b", "c"), ("a", "c")):
            yard = Yard(kinds, ((0,) * len(kinds),) * len(kinds))
            self.raised(OtherKinds, "given", yard, lambda: fits(Facts(("a", "b"), lines), yard),
                        lambda: fits(yard=yard, facts=Facts(("a", "b"), lines)))

    def test_no_facts_and_no_yards(self):
        for value in NO_FACTS:
            self.raised(NotFacts, "given", value, *(
                functools.partial(call, value) for call in (possible, some_rows, out_range, most_swaps)),
                lambda: possible(facts=value), lambda: some_rows(facts=value), lambda: out_range(facts=value),
                lambda: most_swaps(facts=value), lambda: fits(value, None), lambda: fits(yard=hall(), facts=value),
                lambda: case_range(value, None, None), lambda: case_range(thing="b", place="a", facts=value))
        for value in values_of_all_kinds() + [SEEN, str(hall()), hall().rows]:
            self.raised(NotYard, "given", value, lambda: fits(SEEN, value), lambda: fits(yard=value, facts=SEEN))


if __name__ == "__main__":
    unittest.main()
