"""Yards: balanced tables of things at places, their texts, and what moves and changes make of them."""

from swapkinds.errors import InvalidChanges, InvalidKind, InvalidKinds, InvalidMove, InvalidNumber, InvalidPlan
from swapkinds.errors import InvalidRows, InvalidText, NotThere, NotYard, OtherKinds, TooGreat, Unbalanced
from swapkinds.limits import MOST_COUNT, MOST_KINDS
from swapkinds.tables import greatest_number, is_change, is_kind, is_move, is_name, is_number, is_part_of_plan, is_row
from swapkinds.tables import kinds_of_text, rows_behind, rows_of_text, text_lines, things_out, unbalanced_at


def check_kinds(kinds):
    """Raises InvalidKinds if this is no tuple of two to four different names."""
    if not isinstance(kinds, tuple) or len(kinds) < 2:
        raise InvalidKinds(None)
    for at, kind in enumerate(kinds):
        if at >= MOST_KINDS or not is_name(kind) or kind in kinds[:at]:
            raise InvalidKinds(at)


def check_rows(rows, count):
    """Raises InvalidRows if these are no rows of a table for so many kinds."""
    if not isinstance(rows, tuple) or len(rows) != count:
        raise InvalidRows(None)
    for at, row in enumerate(rows):
        if not is_row(row, count):
            raise InvalidRows(at)


def check_balance(kinds, rows):
    """Raises Unbalanced if a kind has another number of things than of places."""
    at = unbalanced_at(rows)
    if at is not None:
        raise Unbalanced(kinds[at])


def check_not_too_great(rows):
    """Raises TooGreat if a number is above those that a yard can have."""
    greatest = greatest_number(rows)
    if greatest > MOST_COUNT:
        raise TooGreat(greatest)


def check_changes(changes, lines):
    """Raises InvalidChanges if these are no changes of different ones of the lines."""
    if not isinstance(changes, tuple):
        raise InvalidChanges(None)
    olds = []
    for at, change in enumerate(changes):
        if not is_change(lines, change) or change[0] in olds:
            raise InvalidChanges(at)
        olds.append(change[0])


def check_yard(value):
    """Raises NotYard if a value is no yard."""
    if not isinstance(value, Yard):
        raise NotYard(value)


def check_move(kinds, move):
    """Raises InvalidMove if this is no move of these kinds."""
    if not is_move(kinds, move):
        raise InvalidMove(move)


def check_number(number, least):
    """Raises InvalidNumber if this is no integer from the least one on."""
    if not is_number(number, least):
        raise InvalidNumber(number)


def yard_of_text(text):
    """The yard with this text; None if it is the text of none."""
    try:
        yard = Yard(kinds_of_text(text), rows_of_text(text))
    except (InvalidKinds, InvalidRows, Unbalanced):
        return None
    # words are read loosely; a text is the one of the yard only if it is written again to the letter
    return yard if str(yard) == text else None


class Yard:
    """Two to four kinds, and how many things of each kind lie at the places of each kind."""

    def __init__(self, kinds, rows):
        check_kinds(kinds)
        check_rows(rows, len(kinds))
        check_balance(kinds, rows)
        self._kinds = kinds
        self._rows = rows

    @classmethod
    def read(cls, text):
        """The yard with this text."""
        if not isinstance(text, str):
            raise InvalidText(text)
        yard = yard_of_text(text)
        if yard is None:
            raise InvalidText(text)
        return yard

    @property
    def kinds(self):
        """The kinds, as they were passed."""
        return self._kinds

    @property
    def rows(self):
        """The rows of the table, as they were passed."""
        return self._rows

    def cases(self, place, thing):
        """How many things of the second kind lie at places of the first one."""
        if not is_kind(self._kinds, place):
            raise InvalidKind(place)
        if not is_kind(self._kinds, thing):
            raise InvalidKind(thing)
        return self._rows[self._kinds.index(place)][self._kinds.index(thing)]

    def out(self):
        """How many things are not in place."""
        return things_out(self._rows)

    def size(self):
        """How many things there are."""
        return sum([sum(row) for row in self._rows])

    def made(self, move, times):
        """The yard behind a move that is made so often."""
        check_move(self._kinds, move)
        check_number(times, 1)
        rows = rows_behind(self._kinds, self._rows, move, times)
        if rows is None:
            raise NotThere(move)
        check_not_too_great(rows)
        return Yard(self._kinds, rows)

    def behind(self, plan):
        """The yard behind a plan; the numbers between may be of any size."""
        if not isinstance(plan, tuple):
            raise InvalidPlan(None)
        rows = self._rows
        for at, part in enumerate(plan):
            if not is_part_of_plan(self._kinds, part):
                raise InvalidPlan(at)
            rows = rows_behind(self._kinds, rows, part[0], part[1])
            if rows is None:
                raise InvalidPlan(at)
        check_not_too_great(rows)
        return Yard(self._kinds, rows)

    def changed(self, changes):
        """The yard with these changes of lines of its text, all made at once."""
        first, *lines = text_lines(self._kinds, self._rows)
        check_changes(changes, lines)
        news = {old: new for old, new in changes}
        changed_lines = [news.get(line, line) for line in lines]
        return self.read("\n".join([first, *changed_lines]))

    def __eq__(self, other):
        return isinstance(other, Yard) and self._kinds == other._kinds and self._rows == other._rows

    def __len__(self):
        return len(self._kinds)

    def __str__(self):
        return "\n".join(text_lines(self._kinds, self._rows))

    def __repr__(self):
        return f"Yard of {len(self._kinds)} kinds"

    def __add__(self, other):
        if not isinstance(other, Yard):
            return NotImplemented
        if self._kinds != other._kinds:
            raise OtherKinds(other)
        pairs = list(zip(self._rows, other._rows))
        rows = tuple([tuple([mine + more for mine, more in zip(own, added)]) for own, added in pairs])
        check_not_too_great(rows)
        return Yard(self._kinds, rows)
