"""Wishes, and the least sets of changes that mend a yard."""

import itertools
import random
import unittest

from swapkinds.errors import InvalidChanges, InvalidText, InvalidWish, InvalidWishes, NotYard
from swapkinds.mends import kept, mends
from swapkinds.orders import least_swaps
from swapkinds.rings import most_rings
from swapkinds.turns import least_moves
from swapkinds.yards import Yard
from tests.samples import MOST, NO_WISHES, Raising, hall, values_of_all_kinds
from tests.searches import drawn_yards, great_yards

NO_YARDS = values_of_all_kinds() + [str(hall()), hall().rows, (hall(),), 5]
WISHED = (("swaps", 12),)
CHANGES = (("a 1 4 2 0", "a 2 3 2 0"), ("b 1 2 2 2", "b 0 3 2 2"), ("b 1 2 2 2", "b 2 2 1 2"))
# no changes of the hall
NO_CHANGES = values_of_all_kinds() + [
    ("a 1 4 2 0",), ("a 1 4 2 0", "a 1 4 2 0", "a 1 4 2 0"), ["a 1 4 2 0", "a 1 4 2 0"], ("a 1 4 2", "a 1 4 2 0"),
    ("kinds a b c d", "kinds a b c d"), ("a 1 4 2 0 ", "a 1 4 2 0"), ("a 1 4 2 0\n", "a"), ("a 1 4 2 0", "a\n"),
    ("a 1 4 2 0", "\n"), ("a 1 4 2 0", None), (None, "a 1 4 2 0"), ("a 1 4 2 0", 5), (0, "a 1 4 2 0"), ("", ""),
    ("a 1 4 2 0", b"a 1 4 2 0"), ("a 1 4 2 0\nb 1 2 2 2", "a 1 4 2 0"), (("a 1 4 2 0",), ("a 1 4 2 0",))]


def measures(yard):
    return {"swaps": least_swaps(yard), "moves": least_moves(yard), "rings": most_rings(yard), "out": yard.out()}


def by_trying(yard, wishes, changes):
    """All least sets that mend, each set of changes with different old lines being tried."""
    mending = []
    for size in range(len(changes) + 1):
        for chosen in itertools.combinations(range(len(changes)), size):
            olds = [changes[at][0] for at in chosen]
            if len(set(olds)) == len(olds) and not any(set(part) <= set(chosen) for part in mending):
                try:
                    other = yard.changed(tuple(changes[at] for at in chosen))
                except InvalidText:
                    continue
                if all(kept(other, wish) for wish in wishes):
                    mending.append(chosen)
    return tuple(mending)


class Kept(Raising):
    def test_example(self):
        self.assertEqual([kept(hall(), ("swaps", 13)), kept(hall(), ("swaps", 12)), kept(hall(), ("moves", 7)),
                          kept(hall(), ("rings", 8)), kept(hall(), ("out", 20))], [True, False, True, False, True])

    def test_at_below_and_above(self):
        for yard in [hall(), *drawn_yards(80, 40), *great_yards(81, 30), Yard(("x", "y"), ((0, 0), (0, 0)))]:
            for word, number in measures(yard).items():
                self.assertIs(kept(yard, (word, number)), True)
                self.assertIs(kept(yard, (word, number + 1)), word != "rings")
                self.assertIs(kept(yard, (word, number + MOST ** 3)), word != "rings")
                self.assertIs(kept(wish=(word, 0), yard=yard), word == "rings" or number == 0)
                if number:
                    self.assertIs(kept(yard, (word, number - 1)), word == "rings")

    def test_no_wishes(self):
        for value in NO_WISHES:
            self.raised(InvalidWish, "given", value, lambda: kept(hall(), value), lambda: kept(wish=value, yard=hall()))

    def test_no_yards(self):
        for value in NO_YARDS:
            self.raised(NotYard, "given", value, lambda: kept(value, None), lambda: kept(value, ("out", 3)),
                        lambda: kept(wish=None, yard=value))


def drawn_line(draw, yard, at):
    """A line that may stand in the place of one of the yard, or that of another kind, or none at all."""
    row = list(yard.rows[at])
    for _ in range(draw.choice((0, 1, 1, 1, 2))):
        one, other = draw.sample(range(len(row)), 2)
        if row[one]:
            row[one], row[other] = row[one] - 1, row[other] + 1
    kind = yard.kinds[at] if draw.random() < 0.9 else draw.choice(yard.kinds)
    line = " ".join([kind, *map(str, row)])
    return line if draw.random() < 0.93 else draw.choice((line + " ", line + " 0", "", "x", line.replace(" ", "  ", 1),
                                                          line[:-1] + "x", line.replace(" ", " 0", 1)))


def drawn_changes(draw, yard, many):
    lines = str(yard).split("\n")[1:]
    changes = []
    for _ in range(many):
        at = draw.randrange(len(lines))
        changes.append((lines[at], drawn_line(draw, yard, at)))
    if many > 1 and draw.random() < 0.2:
        changes[draw.randrange(many)] = draw.choice(changes)
    return tuple(changes)


class Mends(Raising):
    def test_example(self):
        self.assertEqual(mends(hall(), WISHED, CHANGES), ((0, 1),))
        self.assertEqual(mends(changes=CHANGES, wishes=WISHED, yard=hall()), ((0, 1),))

    def test_against_all_sets(self):
        draw = random.Random(82)
        many = {}
        for yard in drawn_yards(83, 700, greatest=2):
            changes = drawn_changes(draw, yard, draw.choice((0, 1, 2, 3, 4, 5, 6, 6)))
            wishes = []
            for word in draw.sample(("swaps", "moves", "rings", "out"), draw.choice((0, 1, 1, 1, 2))):
                wishes.append((word, max(0, measures(yard)[word] + draw.choice((-2, -1, -1, 0)) *
                                         (-1 if word == "rings" else 1))))
            found = mends(yard, tuple(wishes), changes)
            self.assertEqual(found, by_trying(yard, wishes, changes), (str(yard), wishes, changes))
            key = (len(found), max(map(len, found), default=None))
            many[key] = many.get(key, 0) + 1
        for key in ((0, None), (1, 0), (1, 2), (2, 2)):
            self.assertGreater(many.get(key, 0), 2, many)

    def test_no_change_is_needed(self):
        self.assertEqual(mends(hall(), (("swaps", 13), ("out", 20)), CHANGES), ((),))
        self.assertEqual(mends(hall(), (), CHANGES), ((),))
        self.assertEqual(mends(hall(), (), ()), ((),))

    def test_no_set_mends(self):
        self.assertEqual(mends(hall(), WISHED, ()), ())
        self.assertEqual(mends(hall(), WISHED, CHANGES[:1]), ())
        self.assertEqual(mends(hall(), WISHED, CHANGES[1:]), ())
        self.assertEqual(mends(hall(), (("out", 0),), CHANGES), ())
        # it would mend, but is not the line of this kind, or not written as it must be
        for line in ("b 2 3 2 0", "a 02 3 2 0", "a 2 3 2 0 ", "a 2 3 2 0 0", "a 2 3 2", " a 2 3 2 0", "A 2 3 2 0"):
            self.assertEqual(mends(hall(), WISHED, ((CHANGES[0][0], line), CHANGES[1])), ())

    def test_lines_that_change_their_places(self):
        yard = Yard(("x", "y"), ((0, 3), (3, 0)))
        self.assertEqual(mends(yard, (("out", 0),), (("x 0 3", "y 3 0"), ("y 3 0", "x 0 3"))), ())
        self.assertEqual(mends(yard, (("out", 0),), (("x 0 3", "x 3 0"), ("y 3 0", "y 0 3"))), ((0, 1),))

    def test_equal_changes_and_same_old_lines(self):
        yard = Yard(("x", "y"), ((0, 3), (3, 0)))
        changes = (("x 0 3", "x 1 2"), ("x 0 3", "x 1 2"), ("y 3 0", "y 2 1"), ("x 0 3", "x 3 0"), ("y 3 0", "y 0 3"),
                   ("y 3 0", "y 2 1"))
        self.assertEqual(mends(yard, (("swaps", 2),), changes), ((0, 2), (0, 5), (1, 2), (1, 5), (3, 4)))
        self.assertEqual(mends(yard, (("swaps", 1),), changes), ((3, 4),))

    def test_a_set_in_which_one_change_is_not_needed(self):
        yard = Yard(("x", "y", "z"), ((5, 1, 0), (1, 5, 0), (0, 0, 5)))
        changes = (("z 0 0 5", "z 0 0 6"), ("x 5 1 0", "x 6 0 0"), ("y 1 5 0", "y 0 6 0"), ("z 0 0 5", "z 0 0 5"))
        self.assertEqual(mends(yard, (("out", 0),), changes), ((1, 2),))

    def test_greatest_numbers(self):
        yard = Yard(("x", "y"), ((0, MOST), (MOST, 0)))
        changes = ((f"x 0 {MOST}", f"x 1 {MOST - 1}"), (f"y {MOST} 0", f"y {MOST - 1} 1"),
                   (f"x 0 {MOST}", f"x {MOST + 1} 0"), (f"y {MOST} 0", f"y 0 {MOST + 1}"))
        self.assertEqual(mends(yard, (("swaps", MOST - 1),), changes), ((0, 1),))
        self.assertEqual(mends(yard, (("swaps", MOST),), changes), ((),))

    def test_order_of_the_errors(self):
        for value in NO_YARDS:
            self.raised(NotYard, "given", value, lambda: mends(value, None, None),
                        lambda: mends(changes=(), wishes=(), yard=value))
        for value in values_of_all_kinds() + [[("out", 1)], "out"]:
            if not isinstance(value, tuple):
                self.raised(InvalidWishes, "index", None, lambda: mends(hall(), value, None),
                            lambda: mends(changes=None, wishes=value, yard=hall()))
                self.raised(InvalidChanges, "index", None, lambda: mends(hall(), WISHED, value),
                            lambda: mends(changes=value, wishes=(), yard=hall()))
        for value in NO_WISHES:
            self.raised(InvalidWishes, "index", 0, lambda: mends(hall(), (value,), None))
            self.raised(InvalidWishes, "index", 2, lambda: mends(hall(), WISHED * 2 + (value, None), (None,)))
        for value in NO_CHANGES:
            self.raised(InvalidChanges, "index", 0, lambda: mends(hall(), WISHED, (value,)))
            self.raised(InvalidChanges, "index", 3, lambda: mends(hall(), (), CHANGES + (value, None)))
            self.raised(InvalidChanges, "index", 5, lambda: mends(hall(), (), CHANGES + CHANGES[:2] + (value,) * 4))

    def test_six_and_seven_changes(self):
        self.assertEqual(mends(hall(), WISHED, CHANGES * 2), ((0, 1), (0, 4), (1, 3), (3, 4)))
        for more in (CHANGES[:1], (None,), (("x", "y"),), CHANGES * 3):
            self.raised(InvalidChanges, "index", 6, lambda: mends(hall(), WISHED, CHANGES * 2 + more))
        self.raised(InvalidChanges, "index", 4, lambda: mends(hall(), WISHED, CHANGES + (CHANGES[0], None) + CHANGES))


if __name__ == "__main__":
    unittest.main()
