"""The deeds of a clause."""

from tapline.faults import Fault


class Doer:
    """Does what a clause says, in a store, and writes down the deeds."""

    def __init__(self, store, tid):
        """tid is the thread of the view at which the clause is executed."""
        self.store = store
        self.tid = tid
        self.deeds = []
        # What the last speculate named: 0 makes records vanish, None stands for no speculation.
        self.speculation = None

    def set_global(self, i, value):
        self.store.set_global(i, value)
        self.deeds.append(("set", ("global", i), (), value, True))

    def set_thread(self, i, value):
        kept = self.store.set_thread(self.tid, i, value)
        self.deeds.append(("set", ("thread", i), (), value, kept))

    def set_array(self, i, keys, value):
        kept = self.store.set_array(i, keys, value)
        self.deeds.append(("set", ("array", i), keys, value, kept))

    def record(self, sort, values):
        if self.speculation == 0:
            return
        self.store.record(self.speculation, sort, values)
        self.deeds.append(("record", self.speculation, sort, values))

    def put(self, i, keys, n):
        """n is None for a function without an argument."""
        self.store.put(i, keys, n)
        self.deeds.append(("put", i, keys, n))

    def speculate(self, n):
        if n != 0:
            self.need_open(n)
        self.speculation = n

    def commit(self, n):
        if n == 0:
            return
        self.need_open(n)
        self.store.commit(n)
        self.deeds.append(("commit", n))
        self.leave(n)

    def discard(self, n):
        if n == 0:
            return
        self.need_open(n)
        self.store.discard(n)
        self.deeds.append(("discard", n))
        self.leave(n)

    def need_open(self, n):
        if not self.store.is_open(n):
            raise Fault("speculation")

    def leave(self, n):
        """Records that would go to a speculation that is open no more go to none."""
        if self.speculation == n:
            self.speculation = None

    def fault(self, word):
        self.store.fault(word)
        self.deeds.append(("fault", word))

    def stop(self):
        self.deeds.append(("stop",))

    def told(self):
        """The tuple of the deeds so far."""
        return tuple(self.deeds)
