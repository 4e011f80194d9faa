"""Names, numbers, moves and texts as plain values: kinds are a tuple of names, rows a tuple of tuples of integers."""

from swapkinds.limits import MOST_COUNT

LETTERS = "abcdefghijklmnopqrstuvwxyz"
DIGITS = "0123456789"
LONGEST_NAME = 8
# what is told in the place of a last or greatest number where there is none
ENDLESS = "endless"


def is_integer(value):
    """Whether a value is an integer; True and False are none."""
    return isinstance(value, int) and not isinstance(value, bool)


def is_number(value, least):
    """Whether a value is an integer that is not below the least one."""
    return is_integer(value) and value >= least


def is_name(value):
    """Whether a value is a name."""
    if not isinstance(value, str) or not 1 <= len(value) <= LONGEST_NAME:
        return False
    return value[0] in LETTERS and all([sign in LETTERS or sign in DIGITS for sign in value])


def is_kind(kinds, value):
    """Whether a value is one of the kinds."""
    # other values than strings may have an == of their own, so they are not compared
    return isinstance(value, str) and value in kinds


def are_different_kinds(kinds, value):
    """Whether a value is a tuple of the kinds, each of them there once at most."""
    if not isinstance(value, tuple) or not all([is_kind(kinds, kind) for kind in value]):
        return False
    return len(set(value)) == len(value)


def is_order(kinds, value):
    """Whether a value is an order of all these kinds."""
    return are_different_kinds(kinds, value) and len(value) == len(kinds)


def indexes_of(kinds, chosen):
    """The indexes of chosen kinds among all of them, as a tuple."""
    return tuple([kinds.index(kind) for kind in chosen])


def kinds_at(kinds, indexes):
    """The kinds at these indexes, as a tuple."""
    return tuple([kinds[at] for at in indexes])


def named(kinds, pairs):
    """A parting or a plan whose rings or moves are told by indexes, as one of kinds."""
    return tuple([(kinds_at(kinds, indexes), number) for indexes, number in pairs])


def cells_of(rows):
    """The numbers of a table as one list, its rows one behind another."""
    return [number for row in rows for number in row]


def rows_of_cells(count, cells):
    """The rows of a table whose numbers stand one behind another."""
    return tuple([tuple(cells[at:at + count]) for at in range(0, count * count, count)])


def is_in_place(count, at):
    """Whether the cell is that of a kind at its own places, and so that of no step."""
    return at // count == at % count


def case_sum(cells, steps):
    """How many cases the steps, told by their cells, have together."""
    return sum([cells[at] for at in steps])


def is_pair(value):
    """Whether a value is a tuple of two."""
    return isinstance(value, tuple) and len(value) == 2


def is_row(value, count):
    """Whether a value is a row of so many numbers of a table."""
    if not isinstance(value, tuple) or len(value) != count:
        return False
    return all([is_number(number, 0) and number <= MOST_COUNT for number in value])


def is_move(kinds, value):
    """Whether a value is a swap or a turn of these kinds."""
    if not isinstance(value, tuple) or len(value) not in (4, 6):
        return False
    if not all([is_kind(kinds, kind) for kind in value]):
        return False
    places = value[::2]
    return len(set(places)) == len(places) and len(set(value[1::2])) > 1


def is_part_of_plan(kinds, value):
    """Whether a value is a pair of a move of these kinds and how often it is made."""
    return is_pair(value) and is_move(kinds, value[0]) and is_number(value[1], 1)


def is_change(lines, value):
    """Whether a value is a pair of one of these lines and another line."""
    if not is_pair(value):
        return False
    old, new = value
    return isinstance(old, str) and old in lines and isinstance(new, str) and "\n" not in new


def exchanges(kinds, move):
    """For each place of a move: the place, the thing that goes and the thing that comes, by their indexes."""
    at = indexes_of(kinds, move)
    return [(at[k], at[k + 1], at[k - 1]) for k in range(0, len(at), 2)]


def things_out(rows):
    """How many things are not in place."""
    return sum([sum(row) - row[at] for at, row in enumerate(rows)])


def rows_behind(kinds, rows, move, times):
    """The rows behind a move that is made so often, with numbers of any size; None if it cannot be made so."""
    table = [list(row) for row in rows]
    for place, goes, comes in exchanges(kinds, move):
        # where a thing of the same kind comes back, one is enough for any number of times
        needed = 1 if goes == comes else times
        if rows[place][goes] < needed:
            return None
        table[place][goes] -= times
        table[place][comes] += times
    return tuple([tuple(row) for row in table])


def unbalanced_at(rows):
    """The first index of a row that has another sum than the column of this index; None if there is none."""
    for at, row in enumerate(rows):
        if sum(row) != sum([other[at] for other in rows]):
            return at
    return None


def is_balanced(rows):
    """Whether each row has the same sum as the column of its index."""
    return unbalanced_at(rows) is None


def greatest_number(rows):
    """The greatest number of a table."""
    return max([max(row) for row in rows])


def row_line(kind, row):
    """The line of the text of a yard for one kind of places."""
    words = [str(number) for number in row]
    return " ".join([kind, *words])


def text_lines(kinds, rows):
    """The lines of the text of a yard."""
    lines = [row_line(kind, row) for kind, row in zip(kinds, rows)]
    return [" ".join(["kinds", *kinds]), *lines]


def number_of(word):
    """The number that a word of digits tells; -1, which no table has, if it tells none of a table."""
    # the length is asked first, as Python does not read digits without end
    if 1 <= len(word) <= len(str(MOST_COUNT)) and all([sign in DIGITS for sign in word]):
        return int(word)
    return -1


def numbers_of_line(line):
    """The numbers that stand in a line of a text behind its first word, whatever this is; -1 for what is none."""
    return tuple([number_of(word) for word in line.split(" ")[1:]])


def row_of_line(kinds, place, line):
    """The row that a line tells for the places of one kind, by its index; None if it is no such line."""
    row = numbers_of_line(line)
    return row if is_row(row, len(kinds)) and row_line(kinds[place], row) == line else None


def kinds_of_text(text):
    """The kinds that stand in the first line of a text, whatever they are."""
    return tuple(text.split("\n")[0].split(" ")[1:])


def rows_of_text(text):
    """The rows that stand in the other lines of a text, whatever their first words are."""
    return tuple([numbers_of_line(line) for line in text.split("\n")[1:]])
