"""The store of a meaning: it is told beforehand which tries are lost and which calls are empty."""

from tapline.values import zero


class GivenStore:
    """The variables and speculations of a script; records and puts go nowhere."""

    def __init__(self, script, lost, empty):
        self.script = script
        self.lost = {number: True for number in lost}
        self.empty = {number: True for number in empty}
        self.tries = 0
        self.calls = 0
        self.singles = [zero(kind) for _, kind in script[0]]
        # What has no zero value, under ("thread", tid, i) and ("array", i, keys).
        self.held = {}
        self.given = 0
        self.opened = {}

    def global_value(self, i):
        return self.singles[i]

    def thread_value(self, tid, i):
        return self.held.get(("thread", tid, i), zero(self.script[2][i][1]))

    def array_value(self, i, keys):
        return self.held.get(("array", i, keys), zero(self.script[1][i][2]))

    def set_global(self, i, value):
        self.singles[i] = value

    def set_thread(self, tid, i, value):
        return self.attempt(("thread", tid, i), value)

    def set_array(self, i, keys, value):
        return self.attempt(("array", i, keys), value)

    def attempt(self, place, value):
        """A try; tells whether it is kept."""
        number = self.tries
        self.tries += 1
        if number in self.lost:
            return False
        if value == zero(value[0]):
            self.held.pop(place, None)
        else:
            self.held[place] = value
        return True

    def spec(self):
        """A call: the number of a new speculation, or 0."""
        number = self.calls
        self.calls += 1
        if number in self.empty:
            return 0
        self.given += 1
        self.opened[self.given] = True
        return self.given

    def is_open(self, n):
        return n in self.opened

    def record(self, spec, sort, values):
        """Records are told by the deeds alone."""

    def put(self, i, keys, n):
        """Puts are told by the deeds alone."""

    def commit(self, n):
        del self.opened[n]

    def discard(self, n):
        del self.opened[n]

    def fault(self, word):
        """Faults are told by the deeds alone."""

    def image(self):
        """The globals, the threads and the arrays, as a meaning tells its variables."""
        threads = [place[1:] + (self.held[place],) for place in self.held if place[0] == "thread"]
        arrays = [place[1:] + (self.held[place],) for place in self.held if place[0] == "array"]
        return tuple(self.singles), tuple(sorted(threads)), tuple(sorted(arrays))
