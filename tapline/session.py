"""Sessions: scripts that are run at views."""

from tapline.clause_meaning import do_clause
from tapline.meaning import fires
from tapline.run_code import run_code
from tapline.session_store import SessionStore


class Session:
    """A typed script that is run, by its codes or by the meaning, with what it keeps."""

    def __init__(self, script, sizes, codes):
        """The sizes are those of point 9.1; codes has the code of each clause, or is None."""
        self.script = script
        self.codes = codes
        self.store = SessionStore(script, sizes)
        self.ended = False

    def handle(self, view):
        """Runs the clauses that fire at a view."""
        event = view[0]
        if self.ended and event[0] != "close":
            return
        for index, clause in enumerate(self.script[4]):
            if fires(clause, event) and self.run_clause(index, view):
                self.ended = True
                return

    def run_clause(self, index, view):
        """Runs a clause at a view; tells whether it came to a stop."""
        self.store.go_to(index, view[0])
        if self.codes is None:
            deeds = do_clause(self.script, index, view, self.store)
        else:
            deeds = run_code(self.codes[index], view, self.store)
        return deeds[-1:] == (("stop",),)

    def read(self, cpu):
        """The tuple of the items of a processor's buffer since the last reading."""
        buffer = self.store.buffers[cpu]
        items = buffer.switch()
        buffer.give_back()
        return items

    def tables(self, cpu):
        """The tuple of the dicts of a processor's tables, in the order of the script."""
        return tuple([table.look() for table in self.store.counted[cpu]])

    def lost(self):
        """How many records, tries, calls and puts were lost."""
        return self.store.losses()

    def lost_tries(self):
        """The ascending tuple of the numbers of the tries that were lost."""
        return tuple(self.store.tries.failed)

    def empty_calls(self):
        """The ascending tuple of the numbers of the calls that gave 0."""
        return tuple(self.store.calls.failed)

    def variables(self):
        """The values of the globals, and what has no zero value of the thread variables and the arrays."""
        return self.store.cells.image()
