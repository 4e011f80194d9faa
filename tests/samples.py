"""Yards and values that several tests use."""

import itertools
import unittest

from swapkinds.yards import Yard

MOST = 10 ** 30
HALL_TEXT = "kinds a b c d\na 1 4 2 0\nb 1 2 2 2\nc 1 0 0 3\nd 4 1 0 3"
HALL_ROWS = ((1, 4, 2, 0), (1, 2, 2, 2), (1, 0, 0, 3), (4, 1, 0, 3))


def hall():
    return Yard.read(HALL_TEXT)


class Agreeing:
    """A value that says it is equal to everything."""

    def __eq__(self, other):
        return True

    def __ne__(self, other):
        return False

    __hash__ = None


class Refusing:
    """A value that cannot be compared."""

    def __eq__(self, other):
        raise RuntimeError("compared")

    __hash__ = None


def values_of_all_kinds():
    """Values that are no yard, no text, no name of a kind, no number, and no tuple with anything in it."""
    return [None, True, False, "", "Z", " ", b"", b"a", (), [], {}, set(), frozenset(), object(), Agreeing(),
            Refusing(), 1j, ..., NotImplemented, int, Yard, len, range(2), [1], {"a": 1}, ValueError("a"), -1,
            "a b", ["a", "b"], iter(())]


# no moves of the hall
NO_MOVES = values_of_all_kinds() + [
    ("a", "b", "a", "c"), ("a", "b", "b", "b"), ("a", "b", "c"), ("a", "b", "b", "a", "c"), ("a", "b", "e", "a"),
    ("a", "e", "b", "a"), ["a", "b", "b", "a"], ("a", "b", "b", None), ("a", "b", "b", ("a",)), ("a", 1, "b", 0),
    ("a", "c", "c", "d", "d", "c", "b", "a"), ("a", "c", "b", "c", "d", "c"), ("a", "b", "b", "c", "a", "d"),
    ("a", "b", "b", "c", "b", "a"), ("a", "a", "a", "b", "b", "c"), ("a", "b", "b", "c", "e", "a"), "abba",
    (("a", "b"), ("b", "a")), ("a", "b"), ("a", "b", "b", ["a"]), ("a", "b", "b", {})]


NO_WISHES = values_of_all_kinds() + [
    ("swaps",), ("swaps", 1, 1), ["swaps", 1], ("swaps", -1), ("swaps", True), ("swaps", False), ("swaps", None),
    ("swaps", "1"), ("Swaps", 1), ("swap", 1), ("", 1), (None, 1), (1, "swaps"), (b"out", 1), (("out",), 1),
    ("out", (1,)),
    ("threes", 1), ("size", 1), ("out ", 1), ("out", [1]), (["out"], 1), (Agreeing(), 1), (Refusing(), 1),
    ("out", Agreeing()), ("moves rings", 1), "out", ("out", -10 ** 40), (("out", 1),)]


class Raising(unittest.TestCase):
    def raised(self, error, attribute, value, *calls):
        for call in calls:
            with self.assertRaises(error) as caught:
                call()
            self.assertIs(type(caught.exception), error)
            if isinstance(value, int) and not isinstance(value, bool):
                self.assertEqual(getattr(caught.exception, attribute), value)
            else:
                self.assertIs(getattr(caught.exception, attribute), value)


def rings_by_places(count):
    """All rings for so many kinds, by indexes, in the order of partings."""
    return [ring for size in (2, 3, 4) for ring in itertools.permutations(range(count), size) if ring[0] == min(ring)]


def steps_of(ring):
    return [(ring[k - 1], ring[k]) for k in range(len(ring))]


def all_partings(rows):
    """All partings of a small table, found by trying every number of every ring."""
    rings = rings_by_places(len(rows))
    left = [[0 if at == to else number for to, number in enumerate(row)] for at, row in enumerate(rows)]
    found = []

    def take(step_of_search, parts):
        if step_of_search == len(rings):
            if not any(map(any, left)):
                found.append(tuple(parts))
            return
        ring = rings[step_of_search]
        for number in range(min(left[at][to] for at, to in steps_of(ring)) + 1):
            change_left(ring, -number)
            take(step_of_search + 1, parts + ([(ring, number)] if number else []))
            change_left(ring, number)

    def change_left(ring, number):
        for at, to in steps_of(ring):
            left[at][to] += number

    take(0, [])
    return found


def rows_of_rings(count, parts, diagonal=0):
    """The table whose steps have just the cases of these rings, told by indexes."""
    rows = [[0] * count for _ in range(count)]
    for ring, number in parts:
        for at, to in steps_of(ring):
            rows[at][to] += number
    for at in range(count):
        rows[at][at] = diagonal
    return tuple(map(tuple, rows))


def named(parts, kinds):
    """Parts with rings told by indexes, as parts with rings of kinds."""
    return tuple((tuple(kinds[at] for at in ring), number) for ring, number in parts)
