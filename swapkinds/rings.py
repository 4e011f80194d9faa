"""Rings of kinds, and the partings of a yard into them."""

from swapkinds.shapes import FOURS, THREES, TWOS
from swapkinds.tables import are_different_kinds, cells_of, indexes_of, is_in_place, is_number, is_pair, named
from swapkinds.yards import check_yard


def take_rings(left, rings):
    """Takes as many as there can be of each ring out of cells, one ring behind another: pairs (ring, number)."""
    taken = []
    for ring, steps in rings:
        number = min([left[at] for at in steps])
        if number > 0:
            take_away(left, steps, number)
            taken.append((ring, number))
    return taken


def take_away(left, steps, number):
    """Takes the cases of so many rings with these steps out of cells."""
    for at in steps:
        left[at] -= number


def pairs_first_parts(count, left):
    """The pairs first parting of cells with numbers of any size, which are taken out: pairs (ring, number)."""
    # Without rings of two, each two kinds have steps one way only, so there is at most one ring of four, and
    # one of its steps is in no ring of three; without it each ring of three has a step that is in no other one.
    twos = take_rings(left, TWOS[count])
    fours = take_rings(left, FOURS[count])
    return twos + take_rings(left, THREES[count]) + fours


def pairs_first_numbers(rows):
    """The pairs first parting of a table with numbers of any size, by indexes of kinds: pairs (ring, number)."""
    return pairs_first_parts(len(rows), cells_of(rows))


def ring_count(rows):
    """The greatest number of rings of a parting of a table."""
    # no parting has more rings than the one that takes pairs first
    return sum([number for _, number in pairs_first_numbers(rows)])


def pairs_first(yard):
    """The parting that has of each ring of two as many as there can be."""
    check_yard(yard)
    return named(yard.kinds, pairs_first_numbers(yard.rows))


def most_rings(yard):
    """The greatest number of rings of a parting."""
    check_yard(yard)
    return ring_count(yard.rows)


def is_ring(kinds, value):
    """Whether a value is a ring of these kinds."""
    if not are_different_kinds(kinds, value) or len(value) < 2:
        return False
    places = indexes_of(kinds, value)
    return places[0] == min(places)


def is_part(kinds, value):
    """Whether a value is a pair of a ring of these kinds and how many there are of it."""
    return is_pair(value) and is_ring(kinds, value[0]) and is_number(value[1], 1)


def ring_cells(count, ring):
    """The steps of a ring by their cells, that from its last kind to its first one ahead of the others."""
    return [ring[k - 1] * count + ring[k] for k in range(len(ring))]


def is_parting(yard, value):
    """Whether any value is a parting of the yard."""
    check_yard(yard)
    kinds = yard.kinds
    if not isinstance(value, tuple) or not all([is_part(kinds, part) for part in value]):
        return False
    parts = [(indexes_of(kinds, ring), number) for ring, number in value]
    ranks = [(len(ring), ring) for ring, _ in parts]
    if not all([ranks[k] < ranks[k + 1] for k in range(len(ranks) - 1)]):
        return False
    left = cells_of(yard.rows)
    for ring, number in parts:
        take_away(left, ring_cells(len(kinds), ring), number)
    # what lies in place is in no ring
    return all([number == 0 for at, number in enumerate(left) if not is_in_place(len(kinds), at)])


def rings_by_size(parts):
    """How many rings of two, three and four the parts have."""
    return [sum([number for ring, number in parts if len(ring) == size]) for size in (2, 3, 4)]


def tradable(parts):
    """How many rings of four of the pairs first parting can be given away, each with a ring of two for two of three."""
    numbers = {ring: number for ring, number in parts}
    for ring, number in parts:
        if len(ring) == 4:
            across = [(ring[0], ring[2]), (min(ring[1], ring[3]), max(ring[1], ring[3]))]
            return min(number, sum([numbers.get(pair, 0) for pair in across]))
    return 0


def ring_ranges(yard):
    """The least and the greatest number of rings of two, three and four, over all partings with the most rings."""
    check_yard(yard)
    # All these partings have equally many rings and steps, so the number of rings of four tells the others.
    # In a best order each of their rings has one step back. That leaves one ring of four (i, j, k, l), and its
    # number less those of the rings (i, k) and (j, l) is the same for all of them. Pairs first has the most of each.
    parts = pairs_first_numbers(yard.rows)
    twos, threes, fours = rings_by_size(parts)
    traded = tradable(parts)
    return ((twos - traded, twos), (threes, threes + 2 * traded), (fours - traded, fours))
