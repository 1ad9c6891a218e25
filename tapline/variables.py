"""The variables of a script, with a limited number of cells."""

from tapline.values import zero


class Variables:
    """A cell for each global; cells for the thread variables together, and as many for the arrays."""

    def __init__(self, script, cells):
        """A typed script, and the number of cells for thread variables and for elements of arrays."""
        self.script = script
        self.lost = 0
        self.singles = [zero(kind) for _, kind in script[0]]
        self.threads = Cells(cells)
        self.arrays = Cells(cells)

    def global_value(self, i):
        return self.singles[i]

    def thread_value(self, tid, i):
        return self.threads.value((tid, i), zero(self.script[2][i][1]))

    def array_value(self, i, keys):
        return self.arrays.value((i, keys), zero(self.script[1][i][2]))

    def set_global(self, i, value):
        self.singles[i] = value

    def set_thread(self, tid, i, value):
        """A try; tells whether it is kept."""
        return self.counted(self.threads.change((tid, i), value))

    def set_array(self, i, keys, value):
        """A try; tells whether it is kept."""
        return self.counted(self.arrays.change((i, keys), value))

    def counted(self, kept):
        """Counts a try that was lost."""
        if not kept:
            self.lost += 1
        return kept

    def image(self):
        """The globals' values, and what has a cell of the thread variables and of the arrays."""
        return tuple(self.singles), self.threads.image(), self.arrays.image()


class Cells:
    """Values under pairs; zero values need no cell."""

    def __init__(self, many):
        self.many = many
        self.held = {}

    def value(self, place, default):
        """The value at a place; default is the zero value of its kind."""
        return self.held.get(place, default)

    def change(self, place, value):
        """Gives a place a value; tells whether there was a cell for it."""
        if value == zero(value[0]):
            self.held.pop(place, None)
        elif place in self.held or len(self.held) < self.many:
            self.held[place] = value
        else:
            return False
        return True

    def image(self):
        """The ascending tuple of the triples of what has a cell."""
        return tuple(sorted([place + (self.held[place],) for place in self.held]))
