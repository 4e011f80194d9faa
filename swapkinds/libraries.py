"""Libraries: yards under names, with wishes that hold behind each change."""

from swapkinds.errors import Broken, InUse, InvalidIndex, InvalidName, InvalidWish, NothingToUndo, UnknownName
from swapkinds.mends import holds, is_wish
from swapkinds.tables import is_name, is_number
from swapkinds.trials import Guard
from swapkinds.yards import check_yard


class Holding:
    """What a library has behind a change: yards by their names, wishes, what it had before, and how many changes."""

    def __init__(self, yards, wished, before, many):
        self.yards = yards
        self.wished = wished
        self.before = before
        self.many = many


def is_known(holding, value):
    """Whether any value is one of the names."""
    return isinstance(value, str) and value in holding.yards


def first_broken(wished, name, yard):
    """The index of the first wish for a name that would not hold for this yard; None if there is none."""
    for index, (other, wish) in enumerate(wished):
        if other == name and not holds(yard.rows, wish):
            return index
    return None


def first_for(wished, name):
    """The index of the first wish for a name; None if there is none."""
    for index, (other, _) in enumerate(wished):
        if other == name:
            return index
    return None


class Library:
    """Yards under names, and wishes for them; at first without any."""

    def __init__(self):
        # the library is all in this one object, which never changes, so that a trial keeps no more than it
        self._stage = Holding({}, (), None, 0)

    def _change(self, yards, wished):
        """Goes on to these yards and wishes."""
        stage = self._stage
        self._stage = Holding(yards, wished, stage, stage.many + 1)

    def _check_known(self, value):
        """Raises UnknownName if any value is none of the names."""
        if not is_known(self._stage, value):
            raise UnknownName(value)

    def __setitem__(self, at, worth):
        if not is_name(at):
            raise InvalidName(at)
        check_yard(worth)
        # the wishes for other names hold as they did
        index = first_broken(self._stage.wished, at, worth)
        if index is not None:
            raise Broken(index)
        self._change({**self._stage.yards, at: worth}, self._stage.wished)

    def __getitem__(self, at):
        if not is_known(self._stage, at):
            raise UnknownName(at)
        return self._stage.yards[at]

    def __iter__(self):
        raise TypeError("a library is not gone through")

    def remove(self, name):
        """Takes away the yard under a name."""
        self._check_known(name)
        index = first_for(self._stage.wished, name)
        if index is not None:
            raise InUse(index)
        yards = {other: yard for other, yard in self._stage.yards.items() if other != name}
        self._change(yards, self._stage.wished)

    def wish(self, name, wish):
        """Makes a wish, behind the others."""
        self._check_known(name)
        if not is_wish(wish):
            raise InvalidWish(wish)
        wished = self._stage.wished
        if not holds(self._stage.yards[name].rows, wish):
            raise Broken(len(wished))
        self._change(self._stage.yards, wished + ((name, wish),))

    def lift(self, index):
        """Takes away the wish of this index."""
        wished = self._stage.wished
        if not is_number(index, 0) or index >= len(wished):
            raise InvalidIndex(index)
        self._change(self._stage.yards, wished[:index] + wished[index + 1:])

    def undo(self):
        """Takes back the last change that has not been taken back."""
        before = self._stage.before
        if before is None:
            raise NothingToUndo()
        self._stage = before

    @property
    def names(self):
        """The names, ascending."""
        return tuple(sorted(self._stage.yards))

    @property
    def wishes(self):
        """The pairs (name, wish)."""
        return self._stage.wished

    @property
    def changes(self):
        """How many changes can be taken back."""
        return self._stage.many

    def trial(self):
        """For a `with` statement, behind which the library is as it was if it ends with an exception."""
        return Guard(self)

    def tried(self, action):
        """What the function returns for the library, which is as it was if it raises an exception."""
        with self.trial() as library:
            return action(library)

    def __contains__(self, x):
        return is_known(self._stage, x)

    # a library is equal to no value, whatever that value says of it
    def __eq__(self, other):
        return self is other

    def __len__(self):
        return len(self._stage.yards)

    def __bool__(self):
        return True
