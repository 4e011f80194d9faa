"""Works: yards that are put right move by move."""

from swapkinds.errors import NothingToUndo
from swapkinds.trials import Trial
from swapkinds.turns import fewest_moves
from swapkinds.yards import check_yard


class Stage:
    """How far a work is: what it was before the last pair of its plan, this pair, and what came of it."""

    def __init__(self, before, pair, current, needed, many):
        self.before = before
        self.pair = pair
        self.current = current
        self.needed = needed
        self.many = many


class Work:
    """A yard that is put right move by move."""

    def __init__(self, yard):
        check_yard(yard)
        self._first = yard
        # the work is all in this one object, which never changes, so that a trial keeps no more than it
        self._stage = Stage(None, None, yard, fewest_moves(yard.rows), 0)
        self._needed = self._stage.needed

    def make(self, move, times):
        """Makes a move so often, and returns the fewest moves that are needed behind it."""
        stage = self._stage
        yard = stage.current.made(move, times)
        needed = fewest_moves(yard.rows)
        self._stage = Stage(stage, (move, times), yard, needed, stage.many + times)
        return needed

    def undo(self):
        """Takes back the last pair that was made and not taken back."""
        before = self._stage.before
        if before is None:
            raise NothingToUndo()
        self._stage = before

    @property
    def first(self):
        """The yard at the beginning."""
        return self._first

    @property
    def yard(self):
        """The yard as it is now."""
        return self._stage.current

    @property
    def plan(self):
        """The pairs that were made and not taken back."""
        pairs = []
        stage = self._stage
        while stage.before is not None:
            pairs.append(stage.pair)
            stage = stage.before
        return tuple(pairs[::-1])

    @property
    def left(self):
        """The fewest moves that are needed now."""
        return self._stage.needed

    @property
    def wasted(self):
        """How many moves were made and are needed now, more than were needed at the beginning."""
        return self._stage.many + self._stage.needed - self._needed

    def trial(self):
        """For a `with` statement, behind which the work is as it was."""
        return Trial(self)

    def tried(self, action):
        """What the function returns for the work, which is then as it was."""
        with self.trial() as work:
            return action(work)

    # a work is equal to no value, whatever that value says of it
    def __eq__(self, other):
        return self is other

    def __len__(self):
        return len(self.plan)

    def __bool__(self):
        return True
