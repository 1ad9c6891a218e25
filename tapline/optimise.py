"""The optimiser: it takes steps until none is left."""

from tapline.changes import SKIP, changed
from tapline.claims import known_claim, needed_claim, places_claim, reached_claim


def optimise(code):
    """The pair of the code that is left of code that the judge takes, and the list of the steps to it."""
    work = Work(code)
    while work.go_over():
        pass
    return work.code, work.steps


class Work:
    """Code, and the steps that led to it."""

    def __init__(self, code):
        self.code = code
        self.steps = []

    def go_over(self):
        """Takes each sort of step wherever it fits; tells whether there was one.

        A claim stays true while steps of its own sort are taken, so one serves for all of them. Rows
        that cannot be reached are gone before values are known, so that these claims are the strongest.
        """
        before = len(self.steps)
        self.unreach_all()
        self.squeeze_all()
        known = known_claim(self.code)
        self.try_all("fold", known)
        self.try_all("decide", known)
        self.try_all("drop", needed_claim(self.code))
        self.try_all("forget", places_claim(self.code))
        return len(self.steps) > before

    def attempt(self, step):
        """Takes a step whose claim holds, if it fits its row."""
        new = changed(self.code, step)
        if new is not None:
            self.code = new
            self.steps.append(step)

    def try_all(self, word, claim):
        for r in range(len(self.code[1])):
            self.attempt((word, r, claim))

    def unreach_all(self):
        claim = reached_claim(self.code)
        rows = self.code[1]
        for r, row in enumerate(rows):
            if row != SKIP:
                self.attempt(("unreach", r, claim))

    def squeeze_all(self):
        # From the last row on: whether a jump leads to the next row depends on the rows behind it alone.
        for r in reversed(range(len(self.code[1]))):
            self.attempt(("squeeze", r))
