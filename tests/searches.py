"""Small tables searched move by move, and plans carried out with numbers of any size; kinds are told by indexes."""

import functools
import itertools
import random

from swapkinds.yards import Yard
from tests.samples import rings_by_places, rows_of_rings

KINDS = ("d", "b", "a", "c")
SWAPS, TURNS = 2, 3


def moves_of(count, size):
    """All swaps or all turns of so many kinds, the least place first, as it is the same move from there on."""
    return [tuple(at for pair in zip(places, things) for at in pair)
            for places in itertools.permutations(range(count), size) if places[0] == min(places)
            for things in itertools.product(range(count), repeat=size) if len(set(things)) > 1]


def laid_out(rows, move):
    """The table behind one move; None if a thing is missing."""
    table = [list(row) for row in rows]
    places, things = move[::2], move[1::2]
    for place, thing in zip(places, things):
        table[place][thing] -= 1
        if table[place][thing] < 0:
            return None
    for k, thing in enumerate(things):
        table[places[(k + 1) % len(places)]][thing] += 1
    return tuple(map(tuple, table))


def put_right(sums):
    """The table with these sums that has all things in place."""
    return tuple(tuple(number if at == to else 0 for to in range(len(sums))) for at, number in enumerate(sums))


@functools.lru_cache(maxsize=None)
def neighbours(sums, sizes):
    """For each table with these sums of its rows and columns, those that are one move of these sizes away."""
    moves = [move for size in sizes for move in moves_of(len(sums), size)]
    found, waiting = {}, [put_right(sums)]
    while waiting:
        rows = waiting.pop()
        if rows not in found:
            found[rows] = {behind for behind in (laid_out(rows, move) for move in moves) if behind}
            waiting += found[rows]
    return found


def distances(start, sizes):
    """How many moves of these sizes are needed from one table to each other one."""
    known = neighbours(tuple(map(sum, start)), sizes)
    steps, layer, far = {start: 0}, [start], 0
    while layer:
        far += 1
        layer = list({behind for rows in layer for behind in known[rows] if behind not in steps})
        steps.update(dict.fromkeys(layer, far))
    return steps


@functools.lru_cache(maxsize=None)
def needed(sums, sizes):
    """The fewest moves of these sizes that put each table with these sums right. Each move can be taken back."""
    return distances(put_right(sums), sizes)


def swaps_of_rows(rows):
    """The fewest swaps of a table with numbers of any size: the most cases of steps forward in an order."""
    return max(sum(rows[order[at]][to] for at in range(len(rows)) for to in order[at + 1:])
               for order in itertools.permutations(range(len(rows))))


def in_place(rows):
    return sum(row[at] for at, row in enumerate(rows))


def rows_after(yard, plan):
    """The table behind a plan, by kinds, with numbers of any size; None if it cannot be made. Judges its form, too."""
    table = {(place, thing): yard.cases(place, thing) for place in yard.kinds for thing in yard.kinds}
    assert type(plan) is tuple and len(plan) <= 200
    for move, times in plan:
        assert type(move) is tuple and type(times) is int and times >= 1
        places, things = move[::2], move[1::2]
        assert len(set(places)) == len(places) == len(things) in (2, 3) and len(set(things)) > 1
        for k, place in enumerate(places):
            comes = things[k - 1]
            if table[place, things[k]] < (1 if comes == things[k] else times):
                return None
            table[place, things[k]] -= times
            table[place, comes] += times
    return tuple(tuple(table[place, thing] for thing in yard.kinds) for place in yard.kinds)


def drawn_yards(seed, many, greatest=3, diagonal=None):
    """Yards of two to four kinds made of some rings, each up to so often."""
    draw = random.Random(seed)
    for _ in range(many):
        count = draw.choice((2, 3, 4, 4, 4, 4))
        rings = rings_by_places(count)
        liked = draw.sample(rings, min(len(rings), draw.randint(1, 6)))
        parts = [(ring, draw.randint(1, greatest)) for ring in liked]
        yield Yard(KINDS[:count], rows_of_rings(count, parts, draw.randint(0, 3) if diagonal is None else diagonal))


def great_yards(seed, many):
    """Yards with numbers of up to thirty digits, some far apart, some nearly the same."""
    draw = random.Random(seed)
    for _ in range(many):
        count = draw.choice((2, 3, 4, 4, 4, 4))
        base = draw.choice((10 ** 28, 10 ** 28, 10 ** 14, 10 ** 3))
        parts = [(ring, base + draw.randint(-5, 5) if draw.random() < 0.5 else draw.randint(1, 10 ** 28))
                 for ring in rings_by_places(count) if draw.random() < 0.5]
        yield Yard(KINDS[:count], rows_of_rings(count, parts, draw.randint(0, 10 ** 28)))
