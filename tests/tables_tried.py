"""Facts drawn, read and held against all small tables, each of which is gone through."""

import functools
import itertools
import random

from swapkinds.knowing import Facts
from tests.searches import KINDS, swaps_of_rows


@functools.lru_cache(maxsize=None)
def balanced_cells(count, greatest):
    """All balanced tables with nothing in place and numbers up to this one, as numbers of the steps in their order."""
    steps = list(itertools.permutations(range(count), 2))
    signs = [[(at == kind) - (to == kind) for at, to in steps] for kind in range(count - 1)]
    return [cells for cells in itertools.product(range(greatest + 1), repeat=len(steps))
            if not any(sum(map(int.__mul__, sign, cells)) for sign in signs)]


def rows_of(count, cells):
    rows = [[0] * count for _ in range(count)]
    for (at, to), number in zip(itertools.permutations(range(count), 2), cells):
        rows[at][to] = number
    return rows


@functools.lru_cache(maxsize=None)
def swaps_of_cells(count, cells):
    return swaps_of_rows(rows_of(count, cells))


def step_bounds(facts):
    """The least and the most cases of each step, as its facts tell, the test's own reading; None without a most."""
    bounds = {step: [0, None] for step in itertools.permutations(facts.kinds, 2)}
    for line in facts.lines:
        place, thing, word, *numbers = line.split()
        numbers = [int(number) for number in numbers if number != "to"]
        told = bounds[place, thing]
        if word != "most":
            told[0] = max(told[0], numbers[0])
        if word != "least":
            told[1] = numbers[-1] if told[1] is None else min(told[1], numbers[-1])
    return list(bounds.values())


def fitting(facts, greatest):
    """All tables with numbers up to this one that fit, as numbers of the steps."""
    bounds = [(low, greatest if high is None else high) for low, high in step_bounds(facts)]
    return [cells for cells in balanced_cells(len(facts.kinds), greatest)
            if all(low <= number <= high for number, (low, high) in zip(cells, bounds))]


def drawn_line(draw, place, thing, greatest):
    low, high = sorted((draw.randint(0, greatest), draw.randint(0, greatest)))
    return f"{place} {thing} " + draw.choice((f"is {low}", f"from {low} to {high}", f"most {high}", f"least {low}",
                                             f"from 0 to {high}", f"most {high}"))


def drawn_facts(seed, many, count, greatest, untold=0.0):
    """Facts about all steps, but for some that are left out, or are told twice."""
    draw = random.Random(seed)
    kinds = KINDS[:count]
    for _ in range(many):
        lines = [drawn_line(draw, place, thing, greatest) for place, thing in itertools.permutations(kinds, 2)
                 if draw.random() >= untold]
        place, thing = draw.sample(kinds, 2)
        lines += [drawn_line(draw, place, thing, greatest) for _ in range(draw.randint(0, 2))]
        draw.shuffle(lines)
        yield Facts(kinds, tuple(lines[:12]) or ("d b most 1",))


def drawn_ranges(seed, many, greatest):
    """Facts about three kinds that tell a range of each step, not from 0 on."""
    draw = random.Random(seed)
    for _ in range(many):
        lines = []
        for place, thing in itertools.permutations(KINDS[:3], 2):
            low, high = sorted((draw.choice((0, 1, draw.randint(0, greatest))), draw.randint(0, greatest)))
            lines.append(f"{place} {thing} from {low} to {high}")
        yield Facts(KINDS[:3], tuple(lines))


def with_mosts(facts, greatest):
    """The facts with a most for each step, so that there is an end to trying; None if these are more than twelve."""
    missing = [f"{place} {thing} most {greatest}" for (place, thing), (_, high) in
               zip(itertools.permutations(facts.kinds, 2), step_bounds(facts)) if high is None]
    lines = facts.lines + tuple(missing)
    return Facts(facts.kinds, lines) if len(lines) <= 12 else None


def times_over(facts, factor):
    """The facts with all numbers as many times as great."""
    lines = [" ".join(str(int(word) * factor) if word.isdigit() else word for word in line.split(" "))
             for line in facts.lines]
    return Facts(facts.kinds, tuple(lines))


def has_endless_ring(facts):
    """Whether there is a ring none of whose steps has most cases told."""
    highs = dict(zip(itertools.permutations(facts.kinds, 2), step_bounds(facts)))
    rings = [ring for size in (2, 3, 4) for ring in itertools.permutations(facts.kinds, size)]
    return any(all(highs[ring[k - 1], ring[k]][1] is None for k in range(len(ring))) for ring in rings)
