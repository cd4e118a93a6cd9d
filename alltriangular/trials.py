"""Trials: statements at whose end what is tried is again as it was when they began."""


class Kept:
    """A state that is kept till a statement ends, and what is kept for the statement around this one."""

    def __init__(self, state, around):
        self.state = state
        self.around = around


class Tried:
    """What may be tried, and the states of it that are kept: one for each statement that has not ended."""

    def __init__(self, tried):
        self._tried = tried
        self._kept = None

    def begun(self):
        """Keeps the state, and returns what is tried."""
        self._kept = Kept(self._tried.state, self._kept)
        return self._tried


class Trial(Tried):
    """For `with` statements, also for one within another: all is as it was, however the block ends."""

    def __enter__(self):
        return self.begun()

    def __exit__(self, kind, value, trace):
        tried = self._tried
        tried.state = self._kept.state
        self._kept = self._kept.around


class CarefulTrial(Tried):
    """For `with` statements likewise: all is as it was if the block ends with an exception."""

    def __enter__(self):
        return self.begun()

    def __exit__(self, kind, value, trace):
        tried = self._tried
        if kind is not None:
            tried.state = self._kept.state
        self._kept = self._kept.around
