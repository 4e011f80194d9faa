"""Trials of works and libraries: what is done within a `with` statement and then taken back."""


class Opened:
    """What a trial has to go back to behind a statement within which the same trial is used once more."""

    def __init__(self, begun, outer):
        self.begun = begun
        self.outer = outer


class Trial:
    """Behind a statement the work is as it was when the statement began."""

    def __init__(self, held):
        self._held = held
        self._begun = None
        self._outer = None

    def __enter__(self):
        self._outer = Opened(self._begun, self._outer)
        self._begun = self._held._stage
        return self._held

    def __exit__(self, kind, value, trace):
        held = self._held
        held._stage = self._begun
        self.shut()

    # goes back to the statement around this one
    def shut(self):
        self._begun = self._outer.begun
        self._outer = self._outer.outer


class Guard(Trial):
    """Behind a statement that ends with an exception the library is as it was when the statement began."""

    def __exit__(self, kind, value, trace):
        held = self._held
        if kind is not None:
            held._stage = self._begun
        self.shut()
