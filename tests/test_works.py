"""Works: moves made, taken back and tried, held against tables and plans of the test's own."""

import random
import unittest

from swapkinds.errors import InvalidMove, InvalidNumber, NotPossible, NotThere, NothingToUndo, NotYard, TooGreat
from swapkinds.plans import plan_length, swap_plan
from swapkinds.turns import least_moves, move_plan
from swapkinds.works import Work
from swapkinds.yards import Yard
from tests.samples import MOST, NO_MOVES, Raising, hall, values_of_all_kinds
from tests.searches import SWAPS, TURNS, drawn_yards, great_yards, moves_of, rows_after

NO_TIMES = values_of_all_kinds() + [0, -1, -10 ** 30, "1", (1,)]
SWAP = ("a", "b", "b", "a")
TURN = ("a", "c", "c", "d", "d", "a")


def all_moves(yard):
    return [tuple(yard.kinds[at] for at in move) for size in (SWAPS, TURNS) if size <= len(yard)
            for move in moves_of(len(yard), size)]


class Stopped(Exception):
    """An error that the package does not know."""


class Working(Raising):
    def shown(self, work, first, plan):
        """All that a work shows, against the yard that it began with and the pairs made."""
        yard = Yard(first.kinds, rows_after(first, tuple(plan)))
        self.assertIs(work.first, first)
        self.assertEqual(work.yard, yard)
        self.assertEqual((work.plan, type(work.plan)), (tuple(plan), tuple))
        self.assertEqual(work.left, least_moves(yard))
        self.assertEqual(work.wasted, sum(times for _, times in plan) + least_moves(yard) - least_moves(first))
        self.assertEqual(len(work), len(plan))
        self.assertIs(bool(work), True)


class Making(Working):
    def test_example(self):
        work = Work(hall())
        self.assertEqual([work.left, work.make(SWAP, 1), work.make(TURN, 2), work.left, work.wasted, len(work)],
                         [7, 6, 4, 4, 0, 2])
        self.assertEqual([work.make(("a", "a", "b", "b"), 1), work.wasted, work.undo(), work.yard.out(),
                          work.tried(len)], [5, 2, None, 12, 2])
        move = ("a", "b", "b", "c")
        self.raised(NotThere, "given", move, lambda: work.make(move, 9))

    def test_rows_of_moves(self):
        draw = random.Random(90)
        refused = 0
        for yard in [hall(), *drawn_yards(91, 25), *great_yards(92, 10)]:
            work, plan = Work(yard=yard), []
            self.shown(work, yard, plan)
            moves = all_moves(yard)
            for _ in range(40):
                if draw.random() < 0.25:
                    self.undone(work, plan)
                else:
                    refused += self.made(work, plan, draw.choice(moves), draw.choice((1, 1, 1, 2, 3, 10 ** 27)))
                self.shown(work, yard, plan)
            while plan:
                self.undone(work, plan)
            self.undone(work, plan)
            self.shown(work, yard, plan)
        self.assertGreater(refused, 50)

    def undone(self, work, plan):
        if plan:
            self.assertIsNone(work.undo())
            plan.pop()
        else:
            with self.assertRaises(NothingToUndo):
                work.undo()

    def made(self, work, plan, move, times):
        """Makes a move in the work and in the plan; whether it is refused."""
        rows = rows_after(work.first, (*plan, (move, times)))
        if rows is None:
            self.raised(NotThere, "given", move, lambda: work.make(move, times))
            return True
        if max(map(max, rows)) > MOST:
            self.raised(TooGreat, "given", max(map(max, rows)), lambda: work.make(move, times))
            return True
        self.assertEqual(work.make(times=times, move=move), least_moves(Yard(work.first.kinds, rows)))
        plan.append((move, times))
        return False

    def test_the_move_that_was_passed_is_in_the_plan(self):
        work = Work(hall())
        move = tuple(["a", "b", "b", "a"])
        work.make(move, 1)
        self.assertIs(work.plan[0][0], move)

    def test_long_row(self):
        yard = Yard(("x", "y"), ((0, MOST), (MOST, 0)))
        work, swap = Work(yard), ("x", "y", "y", "x")
        for many in range(1, 3001):
            self.assertEqual(work.make(swap, 1), MOST - many)
        self.assertEqual((len(work), work.plan, work.wasted), (3000, ((swap, 1),) * 3000, 0))
        with work.trial():
            for many in range(3000):
                work.undo()
            self.assertEqual((len(work), work.left), (0, MOST))
        for many in range(2999, -1, -1):
            work.undo()
            self.assertEqual((len(work), work.left), (many, MOST - many)) if many % 500 == 0 else None
        self.assertEqual(work.yard, yard)

    def test_led_by_plans(self):
        for yard in [hall(), *drawn_yards(93, 40), *great_yards(94, 40)]:
            work = Work(yard)
            for move, times in move_plan(yard):
                before = work.left
                self.assertEqual(work.make(move, times), before - times)
                self.assertEqual(work.wasted, 0)
            self.assertEqual((work.left, work.plan, work.yard.out()), (0, move_plan(yard), 0))
            other = Work(yard)
            for move, times in swap_plan(yard):
                other.make(move, times)
            self.assertEqual((other.left, other.plan, other.yard), (0, swap_plan(yard), work.yard))
            self.assertEqual(other.wasted, plan_length(swap_plan(yard)) - least_moves(yard))

    def test_errors_change_nothing(self):
        yard = Yard(("a", "b", "c", "d"), ((0, MOST, 1, 0), (MOST, 0, 0, 1), (1, 0, 0, 0), (0, 1, 0, 0)))
        work, plan = Work(yard), [(("a", "b", "b", "d"), 1)]
        work.make(*plan[0])
        for value in NO_MOVES:
            self.raised(InvalidMove, "given", value, lambda: work.make(value, None),
                        lambda: work.make(times=0, move=value))
        for value in NO_TIMES:
            self.raised(InvalidNumber, "given", value, lambda: work.make(SWAP, value),
                        lambda: work.make(times=value, move=SWAP))
        for move, times in (((("a", "d", "b", "b"), 2)), (("a", "a", "b", "b"), 1), (SWAP, MOST + 1), (SWAP, MOST ** 2),
                            (("a", "b", "c", "c"), 1)):
            self.raised(NotThere, "given", move, lambda: work.make(move, times))
        self.shown(work, yard, plan)
        calm = Yard(("x", "y", "z"), ((MOST, 1, 0), (1, MOST, 0), (0, 0, 0)))
        other = Work(calm)
        self.raised(TooGreat, "given", MOST + 1, lambda: other.make(("x", "y", "y", "x"), 1))
        self.raised(NotThere, "given", ("x", "y", "y", "x"), lambda: other.make(("x", "y", "y", "x"), 2))
        self.shown(other, calm, [])

    def test_no_yards(self):
        for value in values_of_all_kinds() + [str(hall()), hall().rows, Work(hall())]:
            self.raised(NotYard, "given", value, lambda: Work(value), lambda: Work(yard=value))

    def test_never_equal(self):
        work, other = Work(hall()), Work(hall())
        for value in [other, hall(), *values_of_all_kinds()]:
            self.assertIs(work == value, False)
            self.assertIs(work != value, True)
        self.assertIs(work == work, True)
        self.assertTrue(Work(Yard(("x", "y"), ((0, 0), (0, 0)))))


class Trials(Working):
    def setUp(self):
        self.yard = hall()
        self.work = Work(self.yard)
        self.plan = [(SWAP, 1), (TURN, 1)]
        for move, times in self.plan:
            self.work.make(move, times)

    def same(self):
        """The work is as it was at the beginning of the test, also what can be taken back."""
        self.shown(self.work, self.yard, self.plan)
        for at in (1, 0):
            self.work.undo()
            self.shown(self.work, self.yard, self.plan[:at])
        with self.assertRaises(NothingToUndo):
            self.work.undo()
        for move, times in self.plan:
            self.work.make(move, times)

    def test_ends_well(self):
        with self.work.trial() as work:
            self.assertIs(work, self.work)
            work.make(TURN, 1)
            self.shown(work, self.yard, self.plan + [(TURN, 1)])
        self.same()

    def test_takes_back_what_was_before_it(self):
        with self.work.trial() as work:
            work.undo()
            work.undo()
            self.shown(work, self.yard, [])
            with self.assertRaises(NothingToUndo):
                work.undo()
            work.make(("b", "c", "c", "a"), 1)
        self.same()

    def test_ends_with_errors(self):
        def own():
            self.work.make(("a", "d", "b", "b"), 9)

        def stopped():
            raise Stopped("enough")

        for error, action in ((NotThere, own), (Stopped, stopped), (ZeroDivisionError, lambda: 1 // 0)):
            with self.assertRaises(error):
                with self.work.trial():
                    self.work.undo()
                    action()
            self.same()

    def test_ends_otherwise(self):
        def returned():
            with self.work.trial() as work:
                work.undo()
                return work.left

        self.assertEqual(returned(), 6)
        self.same()
        for _ in range(2):
            with self.work.trial():
                self.work.undo()
                continue
        self.same()
        with self.assertRaises(SystemExit):
            with self.work.trial():
                self.work.undo()
                raise SystemExit
        self.same()

    def test_asking_alone_changes_nothing(self):
        trial = self.work.trial()
        self.same()
        self.work.make(TURN, 1)
        # it begins with the statement, not when it was asked for
        with trial:
            self.work.undo()
            self.work.undo()
        self.shown(self.work, self.yard, self.plan + [(TURN, 1)])
        self.work.undo()
        self.same()

    def test_within_one_another(self):
        with self.work.trial() as outer:
            outer.make(TURN, 1)
            with self.work.trial() as inner:
                inner.undo()
                inner.undo()
                with self.work.trial():
                    self.work.undo()
                self.shown(self.work, self.yard, self.plan[:1])
            self.shown(self.work, self.yard, self.plan + [(TURN, 1)])
            with self.assertRaises(Stopped):
                with self.work.trial():
                    self.work.undo()
                    raise Stopped
            self.shown(self.work, self.yard, self.plan + [(TURN, 1)])
        self.same()

    def test_one_object_for_several_statements(self):
        trial = self.work.trial()
        for _ in range(3):
            with trial:
                self.work.undo()
            self.same()
        with trial as outer:
            outer.undo()
            with trial as inner:
                inner.undo()
                with trial:
                    self.work.make(("b", "c", "c", "a"), 1)
                self.shown(self.work, self.yard, [])
            self.shown(self.work, self.yard, self.plan[:1])
            with self.assertRaises(Stopped):
                with trial:
                    self.work.undo()
                    raise Stopped
            self.shown(self.work, self.yard, self.plan[:1])
            with trial, trial:
                self.work.undo()
            self.shown(self.work, self.yard, self.plan[:1])
        self.same()

    def test_tried(self):
        def action(work):
            self.assertIs(work, self.work)
            work.undo()
            return work.make(("b", "c", "c", "a"), 1), work

        self.assertEqual(self.work.tried(action), (least_moves(self.yard.behind(
            (self.plan[0], (("b", "c", "c", "a"), 1)))), self.work))
        self.same()
        self.assertIsNone(self.work.tried(action=lambda work: None))
        self.assertEqual(self.work.tried(len), 2)
        self.assertEqual(self.work.tried(lambda work: work.tried(lambda again: again.undo() or len(again))), 1)
        self.same()
        for error in (Stopped, NotPossible, KeyError):
            def failing(work):
                work.undo()
                raise error("x")

            with self.assertRaises(error):
                self.work.tried(failing)
            self.same()

    def test_two_works(self):
        other = Work(self.yard)
        with self.work.trial():
            other.make(SWAP, 1)
            self.work.undo()
        self.same()
        self.assertEqual((len(other), other.yard), (1, self.yard.made(SWAP, 1)))


if __name__ == "__main__":
    unittest.main()
