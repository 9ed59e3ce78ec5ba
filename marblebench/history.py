"""The bench: the run that lies there, and what can be taken back."""

from marblebench.refusals import NothingLaid, NotThere

MOST_BACK = 32


class Bench:
    """run: what lies there, None before a board is laid; earlier: what lay there before each of the
    last calls, the last of them last.
    """

    def __init__(self):
        self.run = None
        self.earlier = []

    def laid_run(self):
        if self.run is None:
            raise NothingLaid()
        return self.run

    def put(self, run):
        """What lies there gives way to another run; this can be taken back."""
        self.earlier = (self.earlier + [self.run])[-MOST_BACK:]
        self.run = run

    def take_back(self):
        if len(self.earlier) == 0:
            raise NotThere()
        self.run = self.earlier.pop()
