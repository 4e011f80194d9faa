"""Moves that may be turns of three things: the most rings of three, plans of moves, and bars."""

from swapkinds.plans import ring_swaps
from swapkinds.rings import pairs_first_parts, take_away
from swapkinds.shapes import BARS, LEAN_BARS, SURPLUS, THREES
from swapkinds.tables import case_sum, cells_of, kinds_at, named, things_out
from swapkinds.yards import check_yard


def fewest_bar_cases(count, cells):
    """The fewest cases that the steps of a bar have together."""
    # a bar with more steps than it must have has one of the lean ones in it
    return min([case_sum(cells, bar) for bar in LEAN_BARS[count]])


def fewest_cases_bar(rows):
    """The first bar, by the indexes of the kinds of its steps, whose steps have the fewest cases together."""
    count = len(rows)
    cells = cells_of(rows)
    fewest = fewest_bar_cases(count, cells)
    for bar in BARS[count]:
        if case_sum(cells, bar) == fewest:
            return [divmod(at, count) for at in bar]
    return []


def fewest_moves(rows):
    """The fewest moves that put a table right, with numbers of any size."""
    return (things_out(rows) - fewest_bar_cases(len(rows), cells_of(rows))) // 2


def take_threes(count, left):
    """Takes the most rings of three that a parting of these cells has out of them: pairs (ring, number)."""
    # Rings can be taken away if each bar then still has as many cases as there are to be other rings of three.
    # A bar loses a case with each ring for each step that it shares, and one of these is made up for by the ring.
    counts = [case_sum(left, bar) for bar in LEAN_BARS[count]]
    fewest = min(counts)
    spare = [cases - fewest for cases in counts]
    taken = []
    for (ring, steps), surplus in zip(THREES[count], SURPLUS[count]):
        most = min([left[at] for at in steps])
        number = min([most] + [spare[at] // more for at, more in surplus])
        if number > 0:
            take_away(left, steps, number)
            taken.append((ring, number))
            for at, more in surplus:
                spare[at] -= more * number
    return taken


def threes_first_numbers(rows):
    """A parting with the most rings of three, by indexes, in any order: pairs (ring, number)."""
    left = cells_of(rows)
    threes = take_threes(len(rows), left)
    # none of the rings that are left has three kinds, as the most of them are taken
    return threes + pairs_first_parts(len(rows), left)


def ring_moves(ring):
    """The moves that put the things of a ring right, as few as can be: half as many as it has kinds."""
    if len(ring) == 2:
        return ring_swaps(ring)
    things = ring[1:] + ring[:1]
    turn = (ring[0], things[0], ring[1], things[1], ring[2], things[2])
    # behind the turn, two kinds of a ring of four are left to be exchanged
    return [turn, *ring_swaps(ring[:1] + ring[3:])]


def move_parts(rows):
    """A plan, by indexes, that puts a table right with as few moves as can be: pairs (move, times)."""
    return [(move, number) for ring, number in threes_first_numbers(rows) for move in ring_moves(ring)]


def most_threes(yard):
    """The greatest number of rings of three of a parting."""
    check_yard(yard)
    # no parting has more rings of three than a bar has cases, and some parting has as many as the one with fewest
    return fewest_bar_cases(len(yard), cells_of(yard.rows))


def least_moves(yard):
    """The fewest moves, swaps or turns, that put the yard right."""
    check_yard(yard)
    return fewest_moves(yard.rows)


def move_plan(yard):
    """A plan that puts the yard right with as few moves as can be."""
    check_yard(yard)
    return named(yard.kinds, move_parts(yard.rows))


def least_bar(yard):
    """A bar whose steps have as few cases together as can be."""
    check_yard(yard)
    return tuple([kinds_at(yard.kinds, step) for step in fewest_cases_bar(yard.rows)])
