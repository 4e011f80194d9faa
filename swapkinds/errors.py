"""The errors of the package. Each class has just one base class in it, so each sets its attribute itself."""


class WrongValue(ValueError):
    """A value that is not what the call asks for."""


class InvalidText(WrongValue):
    """No text of a yard."""

    def __init__(self, given):
        self.given = given


class InvalidName(WrongValue):
    """No name."""

    def __init__(self, given):
        self.given = given


class InvalidKind(WrongValue):
    """No kind of the yard or of the facts."""

    def __init__(self, given):
        self.given = given


class InvalidMove(WrongValue):
    """No move of kinds of the yard."""

    def __init__(self, given):
        self.given = given


class InvalidNumber(WrongValue):
    """No integer, or one that is too small or too great."""

    def __init__(self, given):
        self.given = given


class InvalidGrowth(WrongValue):
    """No growth of the yard."""

    def __init__(self, given):
        self.given = given


class InvalidFact(WrongValue):
    """No fact."""

    def __init__(self, given):
        self.given = given


class InvalidOrder(WrongValue):
    """No order of the yard."""

    def __init__(self, given):
        self.given = given


class InvalidWish(WrongValue):
    """No wish."""

    def __init__(self, given):
        self.given = given


class InvalidIndex(WrongValue):
    """No index of a wish."""

    def __init__(self, given):
        self.given = given


class NotYard(WrongValue):
    """No yard."""

    def __init__(self, given):
        self.given = given


class NotFacts(WrongValue):
    """No facts."""

    def __init__(self, given):
        self.given = given


class InvalidKinds(WrongValue):
    """No two to four different names."""

    def __init__(self, index):
        self.index = index


class InvalidRows(WrongValue):
    """No rows of a table."""

    def __init__(self, index):
        self.index = index


class InvalidFacts(WrongValue):
    """No one to twelve facts."""

    def __init__(self, index):
        self.index = index


class InvalidPlan(WrongValue):
    """No plan, or one that cannot be made."""

    def __init__(self, index):
        self.index = index


class InvalidChanges(WrongValue):
    """No changes of the yard."""

    def __init__(self, index):
        self.index = index


class InvalidWishes(WrongValue):
    """No wishes."""

    def __init__(self, index):
        self.index = index


class WrongName(LookupError):
    """A name that cannot be used so."""


class UnknownName(WrongName):
    """No name of the library."""

    def __init__(self, given):
        self.given = given


class InUse(WrongName):
    """A name that a wish is for."""

    def __init__(self, index):
        self.index = index


class NotPossible(ArithmeticError):
    """What is asked for cannot be done."""


class Unbalanced(NotPossible):
    """A kind with another number of things than of places."""

    def __init__(self, given):
        self.given = given


class NotThere(NotPossible):
    """A move whose things are not there, or not so often."""

    def __init__(self, given):
        self.given = given


class OtherKinds(NotPossible):
    """A yard with other kinds."""

    def __init__(self, given):
        self.given = given


class TooGreat(NotPossible):
    """A number that no table of a yard has."""

    def __init__(self, given):
        self.given = given


class Impossible(NotPossible):
    """Facts that no table fits."""


class NothingToUndo(NotPossible):
    """Nothing is left to be taken back."""


class Broken(NotPossible):
    """A wish that would not hold."""

    def __init__(self, index):
        self.index = index
