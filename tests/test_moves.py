"""Moves made, plans, changes of the text, and yards added."""

import itertools
import unittest

from swapkinds.errors import InvalidChanges, InvalidMove, InvalidNumber, InvalidPlan, InvalidText, NotThere
from swapkinds.errors import OtherKinds, TooGreat
from swapkinds.yards import Yard
from tests.samples import HALL_ROWS, HALL_TEXT, MOST, NO_MOVES, Raising, hall, values_of_all_kinds

NO_TIMES = values_of_all_kinds() + [0, -1, -10 ** 30, "1", (1,), True, False]


def made_one_by_one(yard, move, times):
    """The table behind a move, things taken up and laid down one by one; None if a thing is missing."""
    table = {(place, thing): yard.cases(place, thing) for place in yard.kinds for thing in yard.kinds}
    places, things = move[::2], move[1::2]
    for _ in range(times):
        if any(table[place, thing] == 0 for place, thing in zip(places, things)):
            return None
        for k, place in enumerate(places):
            table[place, things[k]] -= 1
            table[place, things[k - 1]] += 1
    return tuple(tuple(table[place, thing] for thing in yard.kinds) for place in yard.kinds)


class Making(Raising):
    def test_examples(self):
        self.assertEqual(hall().made(("a", "b", "b", "a"), 1).rows[:2], ((2, 3, 2, 0), (0, 3, 2, 2)))
        self.assertEqual(hall().made(("a", "c", "c", "d", "d", "a"), 1).out(), 17)

    def test_all_moves_of_small_yards(self):
        small = Yard(("x", "y", "z"), ((1, 2, 0), (0, 1, 3), (2, 1, 1)))
        for yard in (small, hall()):
            for size in (2, 3):
                for places in itertools.permutations(yard.kinds, size):
                    for things in itertools.product(yard.kinds, repeat=size):
                        if len(set(things)) > 1:
                            move = tuple(kind for pair in zip(places, things) for kind in pair)
                            self.compared(yard, move)

    def compared(self, yard, move):
        before = str(yard)
        for times in (1, 2, 3, 4, 5):
            rows = made_one_by_one(yard, move, times)
            if rows is None:
                self.raised(NotThere, "given", move, lambda: yard.made(move, times),
                            lambda: yard.made(times=times, move=move))
                self.raised(InvalidPlan, "index", 0, lambda: yard.behind(((move, times),)))
            else:
                self.assertEqual(yard.made(move, times).rows, rows)
                self.assertEqual(yard.made(times=times, move=move).rows, rows)
                self.assertEqual(yard.behind(((move, times),)).rows, rows)
                self.assertEqual(yard.behind(((move, 1),) * times).rows, rows)
        self.assertEqual(str(yard), before)

    def test_as_often_as_can_be_and_once_more(self):
        yard = Yard(("x", "y"), ((0, MOST), (MOST, 5)))
        swap = ("x", "y", "y", "x")
        self.assertEqual(yard.made(swap, MOST - 5).rows, ((MOST - 5, 5), (5, MOST)))
        self.raised(TooGreat, "given", MOST + 5, lambda: yard.made(swap, MOST))
        self.raised(TooGreat, "given", MOST + 1, lambda: yard.made(swap, MOST - 4))
        self.raised(NotThere, "given", swap, lambda: yard.made(swap, MOST + 1), lambda: yard.made(swap, 10 ** 40))
        calm = Yard(("x", "y"), ((0, MOST), (MOST, 0)))
        self.assertEqual(calm.made(swap, MOST).rows, ((MOST, 0), (0, MOST)))

    def test_things_of_the_same_kind_come_back(self):
        yard = Yard(("x", "y", "z"), ((1, 0, 5), (5, 0, 0), (0, 5, 0)))
        # x goes from the places of x and comes back from those of y; the others are exchanged
        turn = ("x", "x", "z", "y", "y", "x")
        self.assertEqual(yard.made(turn, 5).rows, ((1, 0, 5), (0, 5, 0), (5, 0, 0)))
        self.raised(NotThere, "given", turn, lambda: yard.made(turn, 6))
        without = Yard(("x", "y", "z"), ((0, 0, 5), (5, 0, 0), (0, 5, 0)))
        self.raised(NotThere, "given", turn, lambda: without.made(turn, 1), lambda: without.made(turn, 5))

    def test_no_moves(self):
        for move in NO_MOVES:
            self.raised(InvalidMove, "given", move, lambda: hall().made(move, 1),
                        lambda: hall().made(times=1, move=move), lambda: hall().made(move, 0),
                        lambda: hall().made(move, "one"))
        pair = Yard(("a", "b"), ((5, 5), (5, 5)))
        for move in (("a", "b", "b", "a", "c", "c"), ("a", "b", "b", "a", "a", "b"), ("a", "c", "b", "a")):
            self.raised(InvalidMove, "given", move, lambda: pair.made(move, 1))

    def test_no_times(self):
        for times in NO_TIMES:
            # the things are not there either
            self.raised(InvalidNumber, "given", times, lambda: hall().made(("a", "b", "b", "a"), times),
                        lambda: hall().made(("c", "b", "b", "a"), times),
                        lambda: hall().made(times=times, move=("c", "b", "b", "a")))

    def test_too_great_comes_last(self):
        yard = Yard(("x", "y", "z"), ((MOST, MOST, 1), (MOST, MOST, 1), (1, 1, 3)))
        swap = ("x", "y", "y", "x")
        self.raised(NotThere, "given", swap, lambda: yard.made(swap, MOST + 1))
        self.raised(TooGreat, "given", 2 * MOST, lambda: yard.made(swap, MOST),
                    lambda: yard.made(times=MOST, move=swap))
        self.assertEqual(yard.rows, ((MOST, MOST, 1), (MOST, MOST, 1), (1, 1, 3)))


class Plans(Raising):
    def test_example(self):
        plan = ((("a", "b", "b", "c"), 2), (("d", "a", "a", "c"), 1))
        self.assertEqual(hall().behind(plan).rows[0], (2, 2, 3, 0))
        self.assertEqual(hall().behind(plan=plan), hall().made(plan[0][0], 2).made(plan[1][0], 1))

    def test_empty_plan(self):
        self.assertEqual(hall().behind(()), hall())

    def test_moves_one_behind_another(self):
        yard = Yard(("x", "y"), ((0, 2), (2, 0)))
        there, back = (("x", "y", "y", "x"), 2), (("x", "x", "y", "y"), 1)
        self.assertEqual(yard.behind((there, back)).rows, ((1, 1), (1, 1)))
        self.raised(InvalidPlan, "index", 0, lambda: yard.behind((back, there)))
        self.raised(InvalidPlan, "index", 2, lambda: yard.behind((there, back, there)))
        self.assertEqual(yard.rows, ((0, 2), (2, 0)))

    def test_numbers_between_of_any_size(self):
        yard = Yard(("x", "y"), ((MOST, MOST), (MOST, MOST)))
        there, back = ("x", "y", "y", "x"), ("x", "x", "y", "y")
        self.assertEqual(yard.behind(((there, MOST), (back, MOST))), yard)
        self.assertEqual(yard.behind(((there, MOST), (back, 2 * MOST), (there, MOST))), yard)
        self.raised(TooGreat, "given", 2 * MOST, lambda: yard.behind(((there, MOST),)),
                    lambda: yard.behind(((there, MOST), (back, 2 * MOST))))
        self.raised(TooGreat, "given", MOST + 1, lambda: yard.behind(plan=((there, MOST), (back, MOST - 1))))
        self.raised(InvalidPlan, "index", 1, lambda: yard.behind(((there, MOST), (there, 1))),
                    lambda: yard.behind(((there, MOST), (back, 2 * MOST + 1))))

    def test_no_tuple(self):
        for plan in values_of_all_kinds() + [[(("a", "b", "b", "a"), 1)]]:
            if not isinstance(plan, tuple):
                self.raised(InvalidPlan, "index", None, lambda: hall().behind(plan), lambda: hall().behind(plan=plan))

    def test_first_fault(self):
        good = (("a", "b", "b", "a"), 1)
        faults = [(move, 1) for move in NO_MOVES] + [(good[0], times) for times in NO_TIMES]
        faults += values_of_all_kinds() + [good[0], list(good), good + (1,), (good[0],), (1, good[0]), (good[0], 5)]
        for fault in faults:
            self.raised(InvalidPlan, "index", 0, lambda: hall().behind((fault, fault)))
            self.raised(InvalidPlan, "index", 1, lambda: hall().behind((good, fault, None)))
            self.raised(InvalidPlan, "index", 1, lambda: hall().behind(plan=(good, fault)))


class Changes(Raising):
    def test_none(self):
        self.assertEqual(hall().changed(()), hall())

    def test_one_and_several_in_any_order(self):
        one = ("a 1 4 2 0", "a 9 4 2 0")
        self.assertEqual(str(hall().changed((one,))), HALL_TEXT.replace("a 1 4", "a 9 4"))
        two = (("b 1 2 2 2", "b 0 3 2 2"), ("a 1 4 2 0", "a 2 3 2 0"))
        for changes in (two, two[::-1]):
            self.assertEqual(hall().changed(changes).rows, hall().made(("a", "b", "b", "a"), 1).rows)
            self.assertEqual(hall().changed(changes=changes).kinds, ("a", "b", "c", "d"))
        lines = HALL_TEXT.split("\n")[1:]
        changes = tuple((line, line[:2] + "0 0 0 0") for line in reversed(lines))
        self.assertEqual(hall().changed(changes).rows, ((0,) * 4,) * 4)

    def test_the_same_line(self):
        self.assertEqual(hall().changed((("b 1 2 2 2", "b 1 2 2 2"),)), hall())

    def test_all_at_once(self):
        yard = Yard(("a", "b"), ((0, 1), (1, 0)))
        text = "kinds a b\nb 1 0\na 0 1"
        with self.assertRaises(InvalidText) as caught:
            yard.changed((("a 0 1", "b 1 0"), ("b 1 0", "a 0 1")))
        self.assertEqual(caught.exception.given, text)

    def test_a_kind_called_kinds(self):
        yard = Yard(("kinds", "b"), ((0, 1), (1, 0)))
        self.assertEqual(yard.changed((("kinds 0 1", "kinds 5 1"),)).rows, ((5, 1), (1, 0)))
        self.raised(InvalidChanges, "index", 0, lambda: yard.changed((("kinds kinds b", "kinds kinds b"),)))

    def test_no_tuple(self):
        for changes in values_of_all_kinds() + [[("a 1 4 2 0", "a 1 4 2 0")], HALL_TEXT]:
            if not isinstance(changes, tuple):
                self.raised(InvalidChanges, "index", None, lambda: hall().changed(changes),
                            lambda: hall().changed(changes=changes))

    def test_first_fault(self):
        good = ("a 1 4 2 0", "no line of a yard")
        faults = values_of_all_kinds() + [
            ("kinds a b c d", "kinds a b c d"), ("a 1 4 2", "a 1 4 2 0"), ("a 1 4 2 0 ", "a"), ("", ""), list(good),
            good + ("a",), good[:1], good[0], ("b 1 2 2 2", "b 1 2 2 2\n"), ("b 1 2 2 2", "\n"), (1, "b"),
            ("b 1 2 2 2", 1), ("b 1 2 2 2", None), (b"b 1 2 2 2", "b 1 2 2 2"), ("b 1 2 2 2", b"b"), (HALL_TEXT, "a")]
        faults += [(value, "b 1 2 2 2") for value in values_of_all_kinds()]
        faults += [("b 1 2 2 2", value) for value in values_of_all_kinds() if not isinstance(value, str)]
        for fault in faults:
            self.raised(InvalidChanges, "index", 0, lambda: hall().changed((fault, fault)))
            self.raised(InvalidChanges, "index", 1, lambda: hall().changed((good, fault, good)))

    def test_the_same_old_line_twice(self):
        one, other = ("a 1 4 2 0", "a 1 4 2 0"), ("b 1 2 2 2", "b 1 2 2 2")
        self.raised(InvalidChanges, "index", 1, lambda: hall().changed((one, one)))
        self.raised(InvalidChanges, "index", 2, lambda: hall().changed((one, other, ("a 1 4 2 0", "a"))))

    def test_no_text_of_a_yard(self):
        for new in ("", "a", "a 1 4 2", "a 1 4 2 1", "a 1 4 2 00", "e 1 4 2 0", " a 1 4 2 0", "a  1 4 2 0",
                    "a 1 4 2 0 ", f"a {MOST + 1} 4 2 0", "a -1 4 2 0"):
            with self.assertRaises(InvalidText) as caught:
                hall().changed((("a 1 4 2 0", new),))
            self.assertEqual(caught.exception.given, HALL_TEXT.replace("a 1 4 2 0", new))
        self.assertEqual(hall().changed((("a 1 4 2 0", f"a {MOST} 4 2 0"),)).rows[0], (MOST, 4, 2, 0))


class Added(Raising):
    def test_sums(self):
        self.assertEqual((hall() + hall()).out(), 40)
        one, other = Yard(("x", "y"), ((1, 2), (2, 0))), Yard(("x", "y"), ((5, 0), (0, 7)))
        self.assertEqual((one + other).rows, ((6, 2), (2, 7)))
        self.assertEqual((one + other).kinds, ("x", "y"))
        self.assertEqual((one.rows, other.rows), (((1, 2), (2, 0)), ((5, 0), (0, 7))))
        self.assertEqual(one + other, other + one)

    def test_other_kinds(self):
        zeros = ((0, 0), (0, 0))
        one = Yard(("x", "y"), ((MOST, 0), (0, MOST)))
        for kinds, rows in ((("y", "x"), one.rows), (("x", "z"), zeros), (("x", "y", "z"), ((MOST,) * 3,) * 3)):
            other = Yard(kinds, rows)
            self.raised(OtherKinds, "given", other, lambda: one + other)
            self.raised(OtherKinds, "given", one, lambda: other + one)

    def test_too_great(self):
        one = Yard(("x", "y"), ((MOST, 1), (1, MOST - 2)))
        self.raised(TooGreat, "given", 2 * MOST, lambda: one + one)
        self.raised(TooGreat, "given", MOST + 3, lambda: one + Yard(("x", "y"), ((3, 0), (0, 4))))
        self.assertEqual((one + Yard(("x", "y"), ((0, 0), (0, 2)))).rows, ((MOST, 1), (1, MOST)))


class AsTheyWere(unittest.TestCase):
    def test_table_of_the_hall(self):
        yard = hall()
        yard.made(("a", "b", "b", "a"), 1)
        yard.behind(((("a", "b", "b", "a"), 1),))
        yard.changed((("a 1 4 2 0", "a 2 4 2 0"),))
        self.assertEqual(yard.rows, HALL_ROWS)


if __name__ == "__main__":
    unittest.main()
