"""Rings of kinds, and the partings of a yard into them."""

from swapkinds.tables import are_different_kinds, indexes_of, is_number, is_pair, named
from swapkinds.yards import check_yard


def arrangements(count, size):
    """All tuples of so many different ones of the indexes below count, ascending."""
    found = [()]
    for _ in range(size):
        found = [begun + (at,) for begun in found for at in range(count) if at not in begun]
    return found


def rings_of_size(count, size):
    """All rings of so many kinds, by their indexes, ascending."""
    return [ring for ring in arrangements(count, size) if ring[0] == min(ring)]


def ring_steps(ring):
    """The steps of a ring, that from its last kind to its first one ahead of the others."""
    return [(ring[k - 1], ring[k]) for k in range(len(ring))]


def take_away(left, ring, number):
    """Takes the cases of so many rings out of a table of lists."""
    for place, thing in ring_steps(ring):
        left[place][thing] -= number


def pairs_first_numbers(rows):
    """The pairs first parting of a table with numbers of any size, by indexes of kinds: pairs (ring, number)."""
    left = [list(row) for row in rows]
    numbers = {}
    # Without rings of two, each two kinds have steps one way only, so there is at most one ring of four, and
    # one of its steps is in no ring of three; without it each ring of three has a step that is in no other one.
    for size in (2, 4, 3):
        for ring in rings_of_size(len(rows), size):
            numbers[ring] = min([left[place][thing] for place, thing in ring_steps(ring)])
            take_away(left, ring, numbers[ring])
    rings = [ring for size in (2, 3, 4) for ring in rings_of_size(len(rows), size)]
    return [(ring, numbers[ring]) for ring in rings if numbers[ring] > 0]


def pairs_first(yard):
    """The parting that has of each ring of two as many as there can be."""
    check_yard(yard)
    return named(yard.kinds, pairs_first_numbers(yard.rows))


def most_rings(yard):
    """The greatest number of rings of a parting."""
    check_yard(yard)
    # no parting has more rings than the one that takes pairs first
    return sum([number for _, number in pairs_first_numbers(yard.rows)])


def is_ring(kinds, value):
    """Whether a value is a ring of these kinds."""
    if not are_different_kinds(kinds, value) or len(value) < 2:
        return False
    places = indexes_of(kinds, value)
    return places[0] == min(places)


def is_part(kinds, value):
    """Whether a value is a pair of a ring of these kinds and how many there are of it."""
    return is_pair(value) and is_ring(kinds, value[0]) and is_number(value[1], 1)


def step_sums(count, parts):
    """How many cases of each step the rings of the parts have, as a table; rings are told by indexes."""
    sums = [[0] * count for _ in range(count)]
    for ring, number in parts:
        for place, thing in ring_steps(ring):
            sums[place][thing] += number
    return sums


def is_parting(yard, value):
    """Whether any value is a parting of the yard."""
    check_yard(yard)
    kinds = yard.kinds
    if not isinstance(value, tuple) or not all([is_part(kinds, part) for part in value]):
        return False
    parts = [(indexes_of(kinds, ring), number) for ring, number in value]
    ranks = [(len(ring), ring) for ring, _ in parts]
    if not all([ranks[k] < ranks[k + 1] for k in range(len(ranks) - 1)]):
        return False
    sums = step_sums(len(kinds), parts)
    steps = arrangements(len(kinds), 2)
    return all([sums[place][thing] == yard.rows[place][thing] for place, thing in steps])


def rings_by_size(parts):
    """How many rings of two, three and four the parts have."""
    return [sum([number for ring, number in parts if len(ring) == size]) for size in (2, 3, 4)]


def tradable(parts):
    """How many rings of four of the pairs first parting can be given away, each with a ring of two for two of three."""
    numbers = {ring: number for ring, number in parts}
    for ring, number in parts:
        if len(ring) == 4:
            across = [(ring[0], ring[2]), (min(ring[1], ring[3]), max(ring[1], ring[3]))]
            return min(number, sum([numbers.get(pair, 0) for pair in across]))
    return 0


def ring_ranges(yard):
    """The least and the greatest number of rings of two, three and four, over all partings with the most rings."""
    check_yard(yard)
    # All these partings have equally many rings and steps, so the number of rings of four tells the others.
    # In a best order each of their rings has one step back. That leaves one ring of four (i, j, k, l), and its
    # number less those of the rings (i, k) and (j, l) is the same for all of them. Pairs first has the most of each.
    parts = pairs_first_numbers(yard.rows)
    twos, threes, fours = rings_by_size(parts)
    traded = tradable(parts)
    return ((twos - traded, twos), (threes, threes + 2 * traded), (fours - traded, fours))
