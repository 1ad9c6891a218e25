"""The memory of a process, without and with stops."""

from tapline.limits import ADDRESSES, STOP_BYTE


class PlainMemory:
    """The memory of a process of the traced machine."""

    def __init__(self, program):
        self.cells = filled(program)

    def load(self, at):
        """The byte at an address, which counts modulo 256."""
        return self.cells[at % ADDRESSES]

    def store(self, at, byte):
        self.cells[at % ADDRESSES] = byte

    def image(self):
        """The tuple of all bytes."""
        return tuple(self.cells)

    def tells(self, _):
        """Tells whether the instructions at an address are seen: all are."""
        return True


class StoppedMemory:
    """The memory of a process with stops, of which the process notices nothing."""

    def __init__(self, program):
        self.cells = filled(program)
        self.kept = {}

    def load(self, at):
        """The byte that the process has at an address."""
        at = at % ADDRESSES
        return self.kept.get(at, self.cells[at])

    def store(self, at, byte):
        at = at % ADDRESSES
        if at in self.kept:
            self.kept[at] = byte
        else:
            self.cells[at] = byte

    def image(self):
        """The tuple of the bytes that the process has."""
        cells = list(self.cells)
        for at in self.kept:
            cells[at] = self.kept[at]
        return tuple(cells)

    def raw_image(self):
        """The tuple of the bytes as they are."""
        return tuple(self.cells)

    def tells(self, at):
        """Tells whether the instructions at an address are seen: those under stops are."""
        return at in self.kept

    def set_stop(self, at):
        if at not in self.kept:
            self.kept[at] = self.cells[at]
            self.cells[at] = STOP_BYTE

    def clear_stop(self, at):
        if at in self.kept:
            self.cells[at] = self.kept.pop(at)

    def stops(self):
        """The ascending list of the addresses with stops."""
        return sorted(list(self.kept))


def filled(program):
    """The list of the bytes of a memory that begins with a program."""
    cells = list(program)[:ADDRESSES]
    return cells + [0] * (ADDRESSES - len(cells))
