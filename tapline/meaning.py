"""The meaning of scripts: what they do at views."""

from tapline.clause_meaning import do_clause
from tapline.given_store import GivenStore

# The kinds of events whose number is not that of a process.
OF_CALLS = ("entry", "return")


def number_of(event):
    """The number of an event: that of the system call, or of the process."""
    if event[0] in OF_CALLS:
        return event[6][0]
    return event[3]


def names_event(pattern, event):
    """Tells whether a pattern (kind, number or None, at or None) names an event."""
    kind, number, at = pattern
    if kind != event[0]:
        return False
    if number is not None and number != number_of(event):
        return False
    return at is None or at == event[5]


def fires(clause, event):
    """Tells whether a clause fires at an event."""
    return any([names_event(pattern, event) for pattern in clause[0]])


class Meaning:
    """What a typed script does at views, where the lost tries and the empty calls are given."""

    def __init__(self, script, lost, empty):
        self.script = script
        self.store = GivenStore(script, lost, empty)
        self.tries = 0
        self.calls = 0
        self.ended = False

    def handle(self, view):
        """The tuple of the pairs (clause, deeds) at a view, without clauses that did nothing."""
        event = view[0]
        if self.ended and event[0] != "close":
            return ()
        done = []
        for index, clause in enumerate(self.script[4]):
            if not fires(clause, event):
                continue
            deeds = do_clause(self.script, index, view, self.store)
            if deeds:
                done.append((index, deeds))
            if deeds[-1:] == (("stop",),):
                self.ended = True
                break
        self.tries = self.store.tries
        self.calls = self.store.calls
        return tuple(done)

    def variables(self):
        """The values of the globals, and what has no zero value of the thread variables and the arrays."""
        return self.store.image()
