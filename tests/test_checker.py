"""The checker: certificates by hand, what differs in one part, and no claim accepted that is false."""

import itertools
import random
import unittest

from swapkinds.checker import accepts
from swapkinds.knowing import Facts
from swapkinds.orders import best_orders, least_swaps
from swapkinds.plans import swap_plan
from swapkinds.turns import least_bar, least_moves, move_plan
from swapkinds.yards import Yard
from tests.samples import MOST, Agreeing, NO_MOVES, Refusing, hall, values_of_all_kinds
from tests.searches import KINDS, SWAPS, TURNS, drawn_yards, great_yards, moves_of, needed, rows_after, swaps_of_rows
from tests.tables_tried import drawn_facts, drawn_ranges, fitting, step_bounds, swaps_of_cells, with_mosts
from tests.test_knowing import WRONG_LINES
from tests.variants import same, variants

TOLD = 10 ** 24
PAIR = "kinds x y\nx 0 3\ny 3 5"
PAIR_SWAPS = (("swaps", PAIR, 3), (("x", "y"), ((("x", "y", "y", "x"), 3),)))
PAIR_MOVES = (("moves", PAIR, 3), ((), ((("x", "y", "y", "x"), 3),)))
PAIR_GOOD = (("good", PAIR, ("x", "y", "y", "x"), 2),
             ((("x", "y"), ((("x", "y", "y", "x"), 3),)), (("y", "x"), ((("x", "y", "y", "x"), 1),))))
WITHIN = (("within", ("a", "b"), ("a b most 4",), 4), ((("a", "b"), (0, 0)), (("b", "a"), (1, 0))))
NEEDS = (("needs", ("a", "b"), ("a b most 4",), 4), ("kinds a b\na 0 4\nb 4 7", ("b", "a")))
RING = "kinds a b c\na 5 2 0\nb 0 0 2\nc 2 0 1"
RING_SWAPS = (("swaps", RING, 4), (("b", "c", "a"), ((("a", "b", "b", "c"), 2), (("a", "c", "c", "a"), 2))))
RING_MOVES = (("moves", RING, 2), ((("a", "b"), ("a", "c")), ((("a", "b", "b", "c", "c", "a"), 2),)))
BY_HAND = (PAIR_SWAPS, PAIR_MOVES, PAIR_GOOD, WITHIN, NEEDS, RING_SWAPS, RING_MOVES)


def plan_is_right(kinds, rows, plan, number, sizes):
    """Whether a plan is one of so many moves of these sizes that puts a table right, told by other means."""
    try:
        behind = rows_after(Yard(kinds, rows), plan)
    except (AssertionError, KeyError, TypeError, ValueError):
        return False
    return behind is not None and all(behind[at][to] == 0 for at, to in itertools.permutations(range(len(rows)), 2)) \
        and sum(times for _, times in plan) == number and all(len(move) in sizes for move, _ in plan)


def with_value(value, part):
    """The value with another part in the place of each of its own, at each depth."""
    yield part
    if isinstance(value, tuple):
        for at, own in enumerate(value):
            for other in with_value(own, part):
                yield value[:at] + (other,) + value[at + 1:]


def renamed(value, names):
    """A value with other words in the place of its words and of those of its texts."""
    if isinstance(value, str):
        return "\n".join([" ".join([names.get(word, word) for word in line.split(" ")]) for line in value.split("\n")])
    return tuple([renamed(part, names) for part in value]) if isinstance(value, tuple) else value


class Checking(unittest.TestCase):
    def accepted(self, pair):
        self.assertIs(accepts(*pair), True, pair)
        self.assertIs(accepts(certificate=pair[1], claim=pair[0]), True)

    def refused(self, claim, certificate):
        self.assertIs(accepts(claim, certificate), False, (claim, certificate))


class ByHand(Checking):
    def test_examples(self):
        for pair in BY_HAND:
            self.accepted(pair)
        self.refused(("swaps", str(hall()), 12), (best_orders(hall())[0], swap_plan(hall())))
        self.accepted((("swaps", str(hall()), 13), (best_orders(hall())[0], swap_plan(hall()))))

    def test_no_other_number(self):
        for claim, certificate in BY_HAND:
            for more in (-3, -1, 1, 3, 10 ** 30):
                true = claim[0] == "within" and more > 0 or claim[0] == "needs" and more < 0
                self.assertIs(accepts(claim[:-1] + (claim[-1] + more,), certificate), true)

    def test_no_other_word(self):
        for claim, certificate in BY_HAND:
            for word in ("swaps", "moves", "good", "within", "needs", "rings", "out", "Swaps", "", "swap"):
                # a plan of swaps alone may do for both
                if word != claim[0] and (claim[0], word) != ("moves", "swaps"):
                    self.refused((word,) + claim[1:], certificate)

    def test_things_all_in_place(self):
        for text in ("kinds x y\nx 0 0\ny 0 0", f"kinds x y\nx {MOST} 0\ny 0 7"):
            self.accepted((("swaps", text, 0), (("y", "x"), ())))
            self.accepted((("moves", text, 0), ((), ())))
            self.accepted((("moves", text, 0), ((), ())))
            self.refused(("swaps", text, 0), (("y", "x"), ((("x", "x", "y", "y"), 1),)))
            self.refused(("good", text, ("x", "x", "y", "y"), 0), ((("x", "y"), ()), (("x", "y"), ())))

    def test_great_numbers(self):
        text = f"kinds x y\nx 1 {MOST}\ny {MOST} 0"
        plan = ((("x", "y", "y", "x"), MOST - 1), (("y", "x", "x", "y"), 1))
        self.accepted((("swaps", text, MOST), (("x", "y"), plan)))
        self.accepted((("moves", text, MOST), ((), plan)))
        self.refused(("swaps", text, MOST - 1), (("x", "y"), plan))
        # behind the swap a number is greater than one of a yard can be
        full = f"kinds x y\nx {MOST} 2\ny 2 0"
        swap = ("x", "y", "y", "x")
        for times in (1, 2):
            rest = ((swap, 2 - times),) if times < 2 else ()
            self.accepted((("good", full, swap, times), ((("x", "y"), ((swap, 2),)), (("x", "y"), rest))))
        # between the moves, too
        self.accepted((("swaps", full, 2), (("x", "y"), ((swap, 1), (swap, 1)))))
        most = tuple(f"{place} {thing} most {TOLD}" for place, thing in itertools.permutations("ab"))
        orders = ((("a", "b"), (0, 0)), (("b", "a"), (0, 0)))
        self.accepted((("within", ("a", "b"), most, TOLD), orders))
        self.refused(("within", ("a", "b"), most, TOLD - 1), orders)
        self.accepted((("needs", ("a", "b"), ("a b least 1",), MOST),
                       (f"kinds a b\na 0 {MOST}\nb {MOST} 0", ("b", "a"))))
        self.refused(("needs", ("a", "b"), ("a b least 1",), MOST + 1),
                     (f"kinds a b\na 0 {MOST + 1}\nb {MOST + 1} 0", ("b", "a")))

    def test_plans_that_cannot_be_made(self):
        order = ("b", "c", "a")
        for plan in ((), ((("a", "b", "b", "c"), 2),), ((("a", "b", "b", "c"), 3), (("a", "c", "c", "a"), 1)),
                     ((("a", "c", "c", "a"), 2), (("a", "b", "b", "c"), 2)),
                     ((("a", "b", "b", "c"), 2), (("a", "c", "c", "a"), 1), (("a", "c", "c", "b"), 1)),
                     ((("a", "b", "b", "c", "c", "a"), 2),), ((("a", "b", "b", "c"), 0), (("a", "c", "c", "a"), 4)),
                     ((("a", "b", "b", "c"), 2), (("a", "c", "c", "a"), 2), (("a", "a", "c", "c"), 0)),
                     ((("a", "b", "b", "c"), 4), (("b", "c", "a", "b"), -2), (("a", "c", "c", "a"), 2))):
            self.refused(("swaps", RING, 4), (order, plan))
        self.accepted((("swaps", RING, 4), (order, ((("a", "b", "b", "c"), 1), (("a", "c", "c", "a"), 1)) * 2)))
        # one thing of a kind is enough where one like it comes back, however often
        calm = "kinds a b c\na 0 1 0\nb 0 0 1\nc 1 0 5"
        self.accepted((("moves", calm, 1), ((("a", "b"), ("a", "c")), ((("a", "b", "b", "c", "c", "a"), 1),))))
        self.refused(("moves", calm, 1), ((("a", "b"), ("a", "c")), ((("a", "b", "b", "c", "c", "a"), 2),)))
        turns = ((("a", "c", "b", "a", "c", "c"), 3),)
        self.assertIsNone(rows_after(Yard.read(calm), turns))

    def test_turns_only_where_they_are_asked(self):
        self.accepted(RING_MOVES)
        text = "kinds a b c\na 0 1 0\nb 0 0 1\nc 1 0 0"
        turn = ((("a", "b", "b", "c", "c", "a"), 1),)
        self.accepted((("moves", text, 1), ((("a", "b"), ("a", "c")), turn)))
        self.refused(("swaps", text, 1), (("a", "b", "c"), turn))
        self.refused(("swaps", text, 1), (("c", "b", "a"), turn))
        self.refused(("good", text, turn[0][0], 1), ((("a", "b", "c"), turn), (("a", "b", "c"), ())))

    def test_what_is_no_move_though_it_would_do(self):
        self.accepted(PAIR_MOVES)
        for move in (("x", "y", "y", "x", "x", "y"), ("x", "y", "x", "y", "y", "x"), ("x", "y", "y", "x", "y", "x"),
                     ("x", "y", "y", "x", "y", "x", "x", "y"), ("x", "y", "y", "x", "x")):
            self.refused(("moves", PAIR, 3), ((), ((move, 3),)))
            self.refused(("swaps", PAIR, 3), (("x", "y"), ((move, 3),)))
            self.refused(("good", PAIR, move, 2), PAIR_GOOD[1])

    def test_bars(self):
        turn = ((("a", "b", "b", "c", "c", "a"), 2),)
        for bar in ((), (("a", "b"),), (("a", "c"),), (("a", "c"), ("a", "b")), (("a", "b"), ("a", "b"), ("a", "c")),
                    (("a", "b"), ("b", "c")), (("a", "b"), ("a", "d")), (("a", "a"), ("a", "b"), ("a", "c")),
                    [("a", "b"), ("a", "c")], (["a", "b"], ("a", "c")), (("a", "b", "c"), ("a", "c")), ("ab", "ac"),
                    (("a", "b"), ("b", "c"), ("a", "c")), (("a", "b"), ("a", None)), (("a", "b"), Agreeing()),
                    (Refusing(),)):
            self.refused(("moves", RING, 2), (bar, turn))
        for bar in ((("a", "b"), ("b", "a")), (("b", "c"), ("c", "b")), (("a", "b"), ("a", "c"), ("b", "a"))):
            self.accepted((("moves", RING, 2), (bar, turn)))
        # a bar with more cases shows nothing
        self.refused(("moves", RING, 2), ((("a", "b"), ("a", "c"), ("b", "c")), turn))
        self.refused(("moves", RING, 1), ((("a", "b"), ("a", "c"), ("b", "c")), turn))

    def test_heights(self):
        claim, certificate = WITHIN
        for heights in ((5, 5), (-3, -3), (10 ** 40, 10 ** 40)):
            self.accepted((claim, ((("a", "b"), heights), certificate[1])))
            self.refused(claim, (certificate[0], (("b", "a"), heights)))
        for pairs in (certificate[::-1], certificate[:1], certificate[1:], certificate + certificate[:1],
                      certificate[:1] * 2, certificate[1:] * 2, ()):
            self.refused(claim, pairs)
        for heights in ((0,), (0, 0, 0), [0, 0], (0, None), (False, 0), (0, False), ("0", "0"), 0, None, ((0, 0),),
                        (0, 1)):
            self.refused(claim, ((("a", "b"), heights), certificate[1]))
        # the weight of a step that has no most cases told may not be above 0
        facts = ("a b most 4", "c b is 0", "a c is 0", "c a most 9")
        orders = list(itertools.permutations("abc"))
        for order in orders:
            self.refused(("within", ("a", "b", "c"), facts, 10 ** 60), tuple((other, (0, 0, 0)) for other in orders))

    def test_facts_that_contradict_one_another(self):
        lines = ("a b is 4", "a b is 3")
        self.accepted((("within", ("a", "b"), lines, 3), ((("a", "b"), (0, 0)), (("b", "a"), (1, 0)))))
        self.refused(("within", ("a", "b"), lines, 2), ((("a", "b"), (0, 0)), (("b", "a"), (1, 0))))
        # no table fits, so that none needs even less than nothing
        none = lines + ("b a is 3",)
        self.accepted((("within", ("a", "b"), none, -1), ((("a", "b"), (0, 5)), (("b", "a"), (0, 5)))))
        self.refused(("within", ("a", "b"), none, -2), ((("a", "b"), (0, 5)), (("b", "a"), (0, 5))))
        for text in ("kinds a b\na 0 4\nb 4 0", "kinds a b\na 0 3\nb 3 0", "kinds a b\na 0 0\nb 0 0"):
            self.refused(("needs", ("a", "b"), lines, 0), (text, ("a", "b")))

    def test_needs(self):
        kinds, lines = ("a", "b"), ("a b from 2 to 4", "b a least 3")
        for number in (-5, 0, 3, 4):
            self.accepted((("needs", kinds, lines, number), ("kinds a b\na 9 4\nb 4 7", ("a", "b"))))
        for text in ("kinds a b\na 9 2\nb 2 7", "kinds a b\na 9 5\nb 5 7", "kinds b a\nb 7 4\na 4 9",
                     "kinds a b\na 9 4\nb 3 7",
                     "kinds a b c\na 9 4 0\nb 4 7 0\nc 0 0 0", "kinds a b\na 9 4\nb 4 7\n", "kinds a c\na 9 4\nc 4 7",
                     "", None):
            self.refused(("needs", kinds, lines, 0), (text, ("a", "b")))
        for order in (("a",), ("a", "a"), ["a", "b"], ("a", "b", "c"), ("a", "c"), "ab", None, (), ("a", None),
                      ("b", "a", "b")):
            self.refused(("needs", kinds, lines, 0), ("kinds a b\na 9 4\nb 4 7", order))

    def test_good(self):
        claim, certificate = PAIR_GOOD
        for swap in (("x", "x", "y", "y"), ("x", "y", "y", "y"), ("y", "y", "x", "x"), ("x", "y", "x", "y"),
                     ("x", "y", "y", "z")):
            self.refused(("good", PAIR, swap, 2), certificate)
        self.accepted((("good", PAIR, ("y", "x", "x", "y"), 2), certificate))
        for number in (0, -1, 1, 3, 4, True):
            self.refused(("good", PAIR, claim[2], number), certificate)
        self.accepted((("good", PAIR, claim[2], 1), (certificate[0], (("x", "y"), ((("x", "y", "y", "x"), 2),)))))
        self.accepted((("good", PAIR, claim[2], 3), (certificate[0], (("x", "y"), ()))))
        self.refused(("good", PAIR, claim[2], 4), (certificate[0], (("x", "y"), ())))
        self.refused(claim, certificate[::-1])


class Otherwise(Checking):
    """What differs in one part is not accepted, but for what is a certificate or a claim likewise."""

    def test_certificates(self):
        for claim, certificate in BY_HAND:
            accepted = 0
            for other in variants(certificate):
                if accepts(claim, other) and not same(certificate, other):
                    accepted += 1
                    self.right(claim, other)
            self.assertLess(accepted, 40)

    def right(self, claim, certificate):
        """Whether a certificate is one for a claim, told by other means: only these differ."""
        word = claim[0]
        if word in ("swaps", "moves"):
            yard = Yard.read(claim[1])
            self.assertTrue(plan_is_right(yard.kinds, yard.rows, certificate[1], claim[2],
                                          (4,) if word == "swaps" else (4, 6)))
            if word == "swaps":
                self.assertIn(certificate[0], best_orders(yard))
            else:
                self.assertEqual(sum(yard.cases(*step) for step in certificate[0]), yard.out() - 2 * claim[2])
        elif word == "good":
            self.right(("swaps", claim[1], least_swaps(Yard.read(claim[1]))), certificate[0])
            behind = Yard.read(claim[1]).made(claim[2], claim[3])
            self.right(("swaps", str(behind), least_swaps(behind)), certificate[1])
        elif word == "within":
            self.assertEqual([order for order, _ in certificate], list(itertools.permutations(claim[1])))
            self.assertTrue(all(type(height) is int for _, heights in certificate for height in heights))
        else:
            yard = Yard.read(certificate[0])
            self.assertIn(certificate[1], list(itertools.permutations(claim[1])))
            self.assertGreaterEqual(least_swaps(yard), claim[3])

    def test_forms_of_certificates(self):
        """Parts that are of another kind than they must be, at each depth."""
        for claim, certificate in BY_HAND:
            for other in variants(certificate):
                if not self.formed(certificate, other):
                    self.refused(claim, other)

    def formed(self, certificate, other):
        """Whether a value has parts of the same kinds throughout, in any numbers."""
        if type(certificate) is not type(other):
            return False
        if not isinstance(certificate, tuple):
            return True
        if len(certificate) == len(other):
            return all(map(self.formed, certificate, other))
        kinds = {type(part) for part in certificate}
        return all(type(part) in kinds for part in other)

    def test_claims(self):
        for claim, certificate in BY_HAND:
            for other in variants(claim):
                if accepts(other, certificate):
                    self.assertTrue(self.true(other), other)
                    self.assertTrue(self.formed(claim, other))
                    self.assertEqual(len(other), len(claim))

    def true(self, claim):
        """Whether a claim is true, by searches and by trying all tables."""
        word, number = claim[0], claim[-1]
        if word in ("swaps", "moves"):
            rows = Yard.read(claim[1]).rows
            sizes = (SWAPS,) if word == "swaps" else (SWAPS, TURNS)
            return needed(tuple(map(sum, rows)), sizes)[rows] == number
        if word == "good":
            yard = Yard.read(claim[1])
            behind = [yard.made(claim[2], times) for times in range(1, number + 1)]
            counts = [swaps_of_rows(other.rows) for other in (yard, *behind)]
            return counts == list(range(counts[0], counts[0] - number - 1, -1)) and number > 0
        swaps = [swaps_of_cells(len(claim[1]), cells) for cells in fitting(Facts(*claim[1:3]), 7)]
        return max(swaps) <= number if word == "within" else max(swaps) >= number

    def test_texts_that_are_no_yards(self):
        for claim, certificate in (PAIR_SWAPS, PAIR_MOVES, PAIR_GOOD):
            for text in (PAIR + "\n", PAIR + " ", " " + PAIR, PAIR.replace("\n", "\n\n"), PAIR.replace("5", "05"),
                         PAIR.replace("5", "-5"), PAIR.replace("0 3", "1 3 0"), PAIR.replace("kinds", "Kinds"),
                         PAIR.replace("x 0", "y 0"), PAIR.replace(" 5", f" {MOST + 1}"),
                         PAIR.replace(" 5", " " + "9" * 200),
                         PAIR.replace("3 5", "4 5"), PAIR.replace("x y", "x x"), PAIR.replace("\n", "\r\n"),
                         PAIR.encode(),
                         PAIR.replace("\ny", ";\ny"), "kinds x y", "", "\n", PAIR + "\nz 0 0", PAIR.replace("x", "X"),
                         "kinds x\nx 3", PAIR.replace("kinds x y", "kinds x y z"), PAIR.replace(" ", "  "), [PAIR],
                         (PAIR,),
                         PAIR.replace("kinds ", "kinds"), PAIR.replace(" 5", ""), None, 0, Agreeing(), Refusing()):
                self.refused((claim[0], text) + claim[2:], certificate)

    def test_facts_that_are_none(self):
        claim, certificate = WITHIN
        for facts in ((), ["a b most 4"], "a b most 4", ("a b most 4",) * 13, (("a b most 4",),), None,
                      {"a b most 4": 1},
                      ("a b most 4", None), ("a b most 4", 4), ("a b most 4", Agreeing()), (Refusing(),)):
            self.refused(claim[:2] + (facts, 4), certificate)
            self.refused(("needs", claim[1], facts, 4), NEEDS[1])
        self.accepted((claim[:2] + (("a b most 4",) * 12, 4), certificate))
        for line in WRONG_LINES:
            three = ("a", "b", "c")
            calm = tuple(f"{place} {thing} is 0" for place, thing in itertools.permutations(three, 2))
            orders = tuple((order, (0, 0, 0)) for order in itertools.permutations(three))
            self.assertIs(accepts(("within", three, calm, 0), orders), True)
            self.refused(("within", three, calm + (line,), 0), orders)
            self.refused(("needs", three, calm + (line,), 0), ("kinds a b c\na 0 0 0\nb 0 0 0\nc 0 0 0", three))

    def test_kinds_that_are_none(self):
        claim, certificate = WITHIN
        for kinds in (("a",), ("a", "a"), ("a", "B"), ["a", "b"], "ab", ("a", "b", "c"), ("b", "a"), ("a", None), None,
                      (),
                      ("a", "b" * 9), ("a", "1"), ("a", ""), ("a", "b "), ("a", Agreeing()), (Refusing(), "b"),
                      {"a": 1, "b": 1}):
            self.refused(("within", kinds) + claim[2:], certificate)
            self.refused(("needs", kinds) + claim[2:], NEEDS[1])


    def test_all_kinds_renamed(self):
        """Claims and certificates that are right but for the names of their kinds."""
        for claim, certificate in BY_HAND:
            kinds = claim[1] if isinstance(claim[1], tuple) else tuple(claim[1].split("\n")[0].split(" ")[1:])
            for names in (("z" * 8, "b", "c"), ("z1", "a0000000", "zz"), ("is", "from", "kinds"), ("b", "a", "c")):
                told = dict(zip(kinds, names))
                one, other = renamed(claim[1:], told), renamed(certificate, told)
                self.assertIs(accepts((claim[0],) + one, other), True, one)
            for bad in ("z" * 9, "Z", "1", "z-", "z_", "", "zZ", "1z", "_", "z\t"):
                for kind in kinds:
                    told = {kind: bad}
                    self.refused((claim[0],) + renamed(claim[1:], told), renamed(certificate, told))
            # two kinds with one name
            told = {kinds[1]: kinds[0]}
            self.refused((claim[0],) + renamed(claim[1:], told), renamed(certificate, told))

    def test_one_kind_and_five_kinds(self):
        five = "kinds a b c d e\n" + "\n".join(kind + " 0" * 5 for kind in "abcde")
        for text, order in (("kinds a\na 3", ("a",)), (five, tuple("abcde")), ("kinds", ())):
            self.refused(("swaps", text, 0), (order, ()))
            self.refused(("moves", text, 0), ((), ()))
            self.refused(("needs", order, ("a b most 1",), 0), (text, order))
            orders = tuple((other, (0,) * len(order)) for other in itertools.permutations(order))
            calm = tuple(f"{place} {thing} is 0" for place, thing in itertools.permutations(order, 2))[:12]
            self.refused(("within", order, calm or ("a b most 1",), 99), orders)
        bar = tuple(itertools.permutations("abcde", 2))
        self.refused(("moves", five, 0), (bar, ()))

    def test_texts_that_are_not_balanced(self):
        lines = ("a b most 9",)
        self.accepted((("needs", ("a", "b", "c"), lines, 3),
                       ("kinds a b c\na 0 2 1\nb 2 0 0\nc 1 0 0", ("a", "b", "c"))))
        for text in ("kinds a b c\na 0 2 1\nb 2 0 0\nc 0 1 0", "kinds a b c\na 0 2 1\nb 2 0 0\nc 0 0 0",
                     "kinds a b c\na 0 2 0\nb 2 0 3\nc 0 0 7", "kinds a b c\na 0 3 0\nb 2 0 0\nc 0 0 0"):
            self.refused(("needs", ("a", "b", "c"), lines, 1), (text, ("a", "b", "c")))

    def test_turns_that_are_as_good_as_swaps(self):
        found = 0
        for sums in ((2, 2, 2), (1, 2, 3)):
            for rows in sorted(needed(sums, (SWAPS,)))[::5]:
                yard = Yard(("x", "y", "z"), rows)
                for turn in moves_of(3, TURNS):
                    turn = tuple(yard.kinds[at] for at in turn)
                    behind = rows_after(yard, ((turn, 1),))
                    if behind and swaps_of_rows(behind) == least_swaps(yard) - 1:
                        found += 1
                        other = Yard(yard.kinds, behind)
                        self.refused(("good", str(yard), turn, 1), ((best_orders(yard)[0], swap_plan(yard)),
                                                                     (best_orders(other)[0], swap_plan(other))))
        self.assertGreater(found, 10)

    def test_one_thing_is_enough_where_one_like_it_comes(self):
        turn, swap = ("a", "b", "c", "b", "b", "a"), ("b", "c", "c", "b")
        for text, told in (("kinds a b c\na 0 3 0\nb 3 0 1\nc 0 1 0", True),
                           ("kinds a b c\na 0 3 0\nb 3 0 0\nc 0 0 1", False)):
            yard = Yard.read(text)
            plan = ((turn, 3),) + ((swap, 1),) * told
            self.assertEqual(rows_after(yard, plan) is not None, told)
            certificate = (least_bar(yard), plan)
            self.assertIs(accepts(("moves", text, least_moves(yard)), certificate), told)


class AnyValue(Checking):
    def values(self):
        return values_of_all_kinds() + [
            *(part for pair in BY_HAND for part in pair), *BY_HAND, (("swaps",),), ("swaps",), ("swaps", None, 3),
            ("good",),
            ("within", 4), ("needs", 4), ("swaps", 3), ("good", 3), (3,), ("within", ("a", "b")),
            ("needs", None, None, 0), (None, PAIR, 3), (Agreeing(), PAIR, 3),
            (Refusing(), PAIR, 3),
            ("swaps", PAIR, 3, 3), ("moves", PAIR, 3, 3), ("good", PAIR, 1), ("within", ("a", "b"), 4),
            ("good", PAIR, None, 1),
            [["swaps", PAIR, 3]], ((((((((((),),),),),),),),),), ("swaps", PAIR, Agreeing()), (("a",), (("b",),)),
            10 ** 99, "swaps", b"swaps", {"swaps": 1}, ("swaps", PAIR, True), *NO_MOVES]

    def test_in_both_places(self):
        values = self.values()
        good = [(claim, certificate) for claim, certificate in BY_HAND]
        for claim, certificate in good:
            for value in values:
                for one, other in ((claim, value), (value, certificate)):
                    if not any(one is left and other is right for left, right in good):
                        told = accepts(one, other)
                        self.assertIs(type(told), bool)
                        self.assertFalse(told and (isinstance(value, list) or not isinstance(value, tuple)))
        for one, other in itertools.product(values, repeat=2):
            self.assertIs(type(accepts(one, other)), bool)

    def test_in_each_part(self):
        for claim, certificate in BY_HAND:
            for at in range(len(claim)):
                for value in values_of_all_kinds():
                    # any yard needs -1 swaps or more
                    if claim[0] != "needs" or at < 3 or not isinstance(value, int) or isinstance(value, bool):
                        self.refused(claim[:at] + (value,) + claim[at + 1:], certificate)
            for at in range(2):
                for value in values_of_all_kinds():
                    other = certificate[:at] + (value,) + certificate[at + 1:]
                    # the empty tuple is the bar of two kinds
                    if not same(other, certificate):
                        self.refused(claim, other)

    def test_at_any_depth(self):
        """Any value in the place of any part, at any depth, raises nothing; what has another form is not accepted."""
        for claim, certificate in BY_HAND:
            for value in values_of_all_kinds():
                for other in with_value(certificate, value):
                    told = accepts(claim, other)
                    self.assertIs(type(told), bool)
                    # () may be a bar or a plan, -1 a height or a number
                    self.assertFalse(told and not isinstance(value, (tuple, int)) or told and isinstance(value, bool))
                for other in with_value(claim, value):
                    self.assertIs(accepts(other, certificate), claim[0] == "needs" and same(other, claim[:-1] + (-1,)))

    def test_bool_in_the_place_of_1(self):
        text = "kinds x y\nx 0 1\ny 1 0"
        swap = ("x", "y", "y", "x")
        self.accepted((("swaps", text, 1), (("x", "y"), ((swap, 1),))))
        self.refused(("swaps", text, True), (("x", "y"), ((swap, 1),)))
        self.refused(("swaps", text, 1), (("x", "y"), ((swap, True),)))
        self.refused(("moves", text, True), ((), ((swap, 1),)))
        self.refused(("moves", text, 1), ((), ((swap, True),)))
        self.refused(("within", ("a", "b"), ("a b most 1",), True), WITHIN[1])
        self.refused(("within", ("a", "b"), ("a b most 1",), 1), ((("a", "b"), (0, 0)), (("b", "a"), (True, 0))))
        self.accepted((("within", ("a", "b"), ("a b most 1",), 1), ((("a", "b"), (0, 0)), (("b", "a"), (1, 0)))))
        self.refused(("needs", ("a", "b"), ("a b is 1",), True), ("kinds a b\na 0 1\nb 1 0", ("a", "b")))
        self.refused(("good", text, swap, True), ((("x", "y"), ((swap, 1),)), (("x", "y"), ())))


class Searched(Checking):
    def test_swaps_and_moves(self):
        """All certificates of some tables for all claims about each of them: what is accepted is true."""
        accepted = {}
        for sums in ((3, 3), (2, 2, 2), (1, 2, 2, 1)):
            tables = needed(sums, (SWAPS,))
            with_turns = needed(sums, (SWAPS, TURNS))
            sample = sorted(tables)[::max(1, len(tables) // 12)]
            yards = [Yard(KINDS[:len(sums)], rows) for rows in sample]
            swaps = [(order, swap_plan(yard)) for yard in yards for order in itertools.permutations(yard.kinds)]
            moves = [(bar, plan) for bar in map(least_bar, yards) for plan in map(move_plan, yards)]
            for yard, number in itertools.product(yards, range(7)):
                for word, certificates, found in (("swaps", swaps, tables), ("moves", moves, with_turns)):
                    if any(accepts((word, str(yard), number), certificate) for certificate in certificates):
                        self.assertEqual(found[yard.rows], number)
                        accepted[word] = accepted.get(word, 0) + 1
        self.assertGreater(min(accepted["swaps"], accepted["moves"]), 25)

    def test_good(self):
        accepted = 0
        for sums in ((3, 3), (2, 2, 2)):
            tables = needed(sums, (SWAPS,))
            sample = sorted(tables)[::max(1, len(tables) // 10)]
            yards = [Yard(KINDS[:len(sums)], rows) for rows in sample]
            certificates = [(best_orders(yard)[0], swap_plan(yard)) for yard in (
                Yard(KINDS[:len(sums)], rows) for rows in sorted(tables))]
            for yard in yards:
                own = (best_orders(yard)[0], swap_plan(yard))
                for swap in moves_of(len(sums), SWAPS):
                    swap = tuple(yard.kinds[at] for at in swap)
                    for number in (1, 2, 3):
                        if any(accepts(("good", str(yard), swap, number), (own, other)) for other in certificates):
                            accepted += 1
                            counts = [tables[rows_after(yard, ((swap, times),) if times else ())]
                                      for times in range(number + 1)]
                            self.assertEqual(counts, [counts[0] - times for times in range(number + 1)])
        self.assertGreater(accepted, 20)

    def test_within_and_needs(self):
        draw = random.Random(120)
        accepted = [0, 0]
        forced = 0
        for facts in [*drawn_facts(121, 40, 2, 3), *drawn_facts(122, 60, 3, 2), *drawn_ranges(125, 80, 3)]:
            facts = with_mosts(facts, 3)
            cells = fitting(facts, 3) if facts else None
            if not facts:
                continue
            count = len(facts.kinds)
            most = max((swaps_of_cells(count, found) for found in cells), default=None)
            orders = list(itertools.permutations(facts.kinds))
            # for each order the heights that show most, so that all claims that can be are accepted
            best = tuple((order, min(itertools.product(range(3), repeat=count),
                                     key=lambda heights: self.shown(facts, order, heights))) for order in orders)
            free = [min(self.shown(facts, order, heights, 0) for heights in itertools.product(range(3), repeat=count))
                    for order in orders]
            forced += most is not None and max(free) > most
            for number in range(-1, 10):
                told = accepts(("within", facts.kinds, facts.lines, number), best)
                if most is not None:
                    self.assertIs(told, most <= number)
                accepted[told] += 1
                drawn = tuple((order, tuple(draw.randint(-2, 2) for _ in order)) for order in orders)
                if accepts(("within", facts.kinds, facts.lines, number), drawn):
                    self.assertTrue(most is None or most <= number)
                self.needed(facts, cells, number, most, orders)
        self.assertGreater(min(accepted), 50)
        # in some, most swaps are told only if the least cases count where weights are below 0
        self.assertGreater(forced, 3)

    def shown(self, facts, order, heights, counts=1):
        """What heights show for an order, the test's own reckoning."""
        total, high = 0, dict(zip(facts.kinds, heights))
        for (place, thing), (least, most) in zip(itertools.permutations(facts.kinds, 2), step_bounds(facts)):
            weight = (order.index(place) < order.index(thing)) + high[place] - high[thing]
            total += weight * (most if weight > 0 else least * counts)
        return total

    def needed(self, facts, cells, number, most, orders):
        for found in cells[:6] + cells[-6:]:
            rows = [[0] * len(facts.kinds) for _ in facts.kinds]
            for (at, to), many in zip(itertools.permutations(range(len(facts.kinds)), 2), found):
                rows[at][to] = many
            text = str(Yard(facts.kinds, tuple(map(tuple, rows))))
            claim = ("needs", facts.kinds, facts.lines, number)
            told = any(accepts(claim, (text, order)) for order in orders)
            self.assertIs(told, swaps_of_rows(rows) >= number)
            self.assertTrue(most >= number or not told)

    def test_great_yards(self):
        for yard in [*drawn_yards(123, 30, greatest=9), *great_yards(124, 40)]:
            claim = ("swaps", str(yard), least_swaps(yard))
            for order in itertools.permutations(yard.kinds):
                self.assertIs(accepts(claim, (order, swap_plan(yard))), order in best_orders(yard))
            for number in (least_moves(yard) - 1, least_moves(yard) + 1):
                self.refused(("moves", str(yard), number), (least_bar(yard), move_plan(yard)))
            self.accepted((("moves", str(yard), least_moves(yard)), (least_bar(yard), move_plan(yard))))


if __name__ == "__main__":
    unittest.main()
