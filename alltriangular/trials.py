"""Trials: statements at whose end what is tried is again as it was when they began."""


class Kept:
    """A state that is kept till a statement ends, and what is kept for the statement around this one."""

    def __init__(self, state, around):
        self.state = state
        self.around = around


class Trial:
    """For `with` statements, also for one within another: all is as it was, however the block ends."""

    def __init__(self, tried):
        self._tried = tried
        self._kept = None

    def __enter__(self):
        self._kept = Kept(self._tried.state, self._kept)
        return self._tried

    def __exit__(self, kind, value, trace):
        tried = self._tried
        tried.state = self._kept.state
        self._kept = self._kept.around
