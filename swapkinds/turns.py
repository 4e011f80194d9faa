"""Moves that may be turns of three things: the most rings of three, plans of moves, and bars."""

from swapkinds.plans import ring_swaps
from swapkinds.rings import pairs_first_numbers, ring_steps, rings_of_size, take_away
from swapkinds.tables import case_sum, kinds_at, named
from swapkinds.yards import check_yard


def shared(bar, ring):
    """How many steps of a ring are in a bar."""
    return len([step for step in ring_steps(ring) if step in bar])


def bars(count):
    """Bars for so many kinds, by indexes, ascending; all of those that need each of their steps are among them."""
    found = [()]
    for ring in rings_of_size(count, 3):
        met = [bar for bar in found if shared(bar, ring) > 0]
        unmet = [bar for bar in found if shared(bar, ring) == 0]
        found = met + [bar + (step,) for bar in unmet for step in ring_steps(ring)]
    return sorted({tuple(sorted(bar)) for bar in found})


def fewest_cases_bar(rows):
    """A bar, by indexes, whose steps have the fewest cases together: a pair (cases, bar)."""
    return min([(case_sum(rows, bar), bar) for bar in bars(len(rows))])


def most_of_ring(rows, ring, known):
    """How many of a ring of three there can be at most in a parting with the most rings of three."""
    # They can be taken away if each bar then still has as many cases as there are to be other rings of three.
    # A bar loses a case with each ring for each step that it shares, and one of these is made up for by the ring.
    counts = [case_sum(rows, bar) for bar in known]
    threes = min(counts)
    most = min([rows[place][thing] for place, thing in ring_steps(ring)])
    for bar, cases in zip(known, counts):
        surplus = shared(bar, ring) - 1
        if surplus > 0:
            most = min(most, (cases - threes) // surplus)
    return most


def threes_first_numbers(rows):
    """A parting with the most rings of three, by indexes, in any order: pairs (ring, number)."""
    left = [list(row) for row in rows]
    known = bars(len(rows))
    threes = []
    for ring in rings_of_size(len(rows), 3):
        number = most_of_ring(left, ring, known)
        take_away(left, ring, number)
        if number > 0:
            threes.append((ring, number))
    # none of the rings that are left has three kinds, as the most of them are taken
    return threes + pairs_first_numbers(left)


def ring_moves(ring):
    """The moves that put the things of a ring right, as few as can be: half as many as it has kinds."""
    if len(ring) == 2:
        return ring_swaps(ring)
    things = ring[1:] + ring[:1]
    turn = (ring[0], things[0], ring[1], things[1], ring[2], things[2])
    # behind the turn, two kinds of a ring of four are left to be exchanged
    return [turn, *ring_swaps(ring[:1] + ring[3:])]


def most_threes(yard):
    """The greatest number of rings of three of a parting."""
    check_yard(yard)
    # no parting has more rings of three than a bar has cases, and some parting has as many as the one with fewest
    cases, _ = fewest_cases_bar(yard.rows)
    return cases


def least_moves(yard):
    """The fewest moves, swaps or turns, that put the yard right."""
    threes = most_threes(yard)
    return (yard.out() - threes) // 2


def move_plan(yard):
    """A plan that puts the yard right with as few moves as can be."""
    check_yard(yard)
    parts = threes_first_numbers(yard.rows)
    return named(yard.kinds, [(move, number) for ring, number in parts for move in ring_moves(ring)])


def least_bar(yard):
    """A bar whose steps have as few cases together as can be."""
    check_yard(yard)
    _, bar = fewest_cases_bar(yard.rows)
    return tuple([kinds_at(yard.kinds, step) for step in bar])
