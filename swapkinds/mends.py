"""Wishes for a yard, and the least sets of changes that make them hold."""

from swapkinds.errors import InvalidChanges, InvalidWish, InvalidWishes
from swapkinds.limits import MOST_CHANGES
from swapkinds.orders import fewest_swaps
from swapkinds.rings import ring_count
from swapkinds.tables import is_balanced, is_change, is_number, is_pair, row_of_line, text_lines, things_out
from swapkinds.turns import fewest_moves
from swapkinds.yards import check_yard

MEASURES = ("swaps", "moves", "rings", "out")


def measure(rows, word):
    """The number that one of the words stands for, of a table."""
    if word == "swaps":
        return fewest_swaps(rows)
    if word == "moves":
        return fewest_moves(rows)
    if word == "rings":
        return ring_count(rows)
    return things_out(rows)


def is_wish(value):
    """Whether a value is a wish."""
    if not is_pair(value):
        return False
    word, number = value
    return isinstance(word, str) and word in MEASURES and is_number(number, 0)


def holds(rows, wish):
    """Whether a wish holds for a table."""
    word, number = wish
    if word == "rings":
        return measure(rows, word) >= number
    return measure(rows, word) <= number


def all_hold(rows, wishes):
    """Whether all wishes hold for a table."""
    for wish in wishes:
        if not holds(rows, wish):
            return False
    return True


def kept(yard, wish):
    """Whether the wish holds for the yard."""
    check_yard(yard)
    if not is_wish(wish):
        raise InvalidWish(wish)
    return holds(yard.rows, wish)


def check_wishes(wishes):
    """Raises InvalidWishes if this is no tuple of wishes."""
    if not isinstance(wishes, tuple):
        raise InvalidWishes(None)
    for at, wish in enumerate(wishes):
        if not is_wish(wish):
            raise InvalidWishes(at)


def check_few_changes(changes, lines):
    """Raises InvalidChanges if this is no tuple of at most six changes of the lines; some may be of the same line."""
    if not isinstance(changes, tuple):
        raise InvalidChanges(None)
    for at, change in enumerate(changes):
        if at >= MOST_CHANGES or not is_change(lines, change):
            raise InvalidChanges(at)


def changed_rows(yard, lines, changes):
    """For each change that makes another row of the yard: (index of the change, index of the row, new row)."""
    found = []
    for at, (old, new) in enumerate(changes):
        place = lines.index(old)
        row = row_of_line(yard.kinds, place, new)
        # Each line of a text stands for its own kind, so no other change makes up for a line that is no such row.
        # A change that changes nothing is in no least set.
        if row is not None and row != yard.rows[place]:
            found.append((at, place, row))
    return found


def sets_of(parts):
    """All sets of changes of different rows, as lists of the parts, by how many they are, then ascending."""
    found = [[]]
    layer = [[]]
    for _ in parts:
        layer = [chosen + [part] for chosen in layer for part in parts if follows(chosen, part)]
        found = found + layer
    return found


def follows(chosen, part):
    """Whether a change stands behind the chosen ones and is of another row than they are."""
    at, place, _ = part
    return all([other < at and other_place != place for other, other_place, _ in chosen])


def with_rows(rows, chosen):
    """A table with the rows of the chosen changes."""
    table = list(rows)
    for _, place, row in chosen:
        table[place] = row
    return tuple(table)


def has_part(indexes, sets):
    """Whether all of one of the sets are among the indexes."""
    for part in sets:
        if all([at in indexes for at in part]):
            return True
    return False


def mends(yard, wishes, changes):
    """All least sets of the changes that mend the yard for these wishes, as ascending tuples of indexes."""
    check_yard(yard)
    check_wishes(wishes)
    lines = text_lines(yard.kinds, yard.rows)[1:]
    check_few_changes(changes, lines)
    least = []
    for chosen in sets_of(changed_rows(yard, lines, changes)):
        indexes = tuple([at for at, _, _ in chosen])
        if not has_part(indexes, least):
            rows = with_rows(yard.rows, chosen)
            if is_balanced(rows) and all_hold(rows, wishes):
                least.append(indexes)
    return tuple(least)
