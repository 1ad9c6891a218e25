"""The traced machine with stops, by which single instructions are seen."""

from tapline.board import Board
from tapline.limits import ADDRESSES
from tapline.memories import StoppedMemory
from tapline.picks import do_pick


class StoppedMachine:
    """A machine with stops; its processes do not notice them."""

    def __init__(self, programs, rates):
        """Processes with these programs, processors with these rates; no stops."""
        self.memories = [StoppedMemory(program) for program in programs]
        self.board = Board(self.memories, rates)

    def step(self, pick):
        """Does a pick; returns the views of its events, of instructions only those under stops."""
        return do_pick(self.board, pick)

    def state(self):
        """The state of the machine without stops."""
        return self.board.state()

    def set_stop(self, pid, at):
        """Sets a stop, unless there is one; where no process has this address there can be none."""
        if self.has_address(pid, at):
            self.memories[pid].set_stop(at)

    def clear_stop(self, pid, at):
        """Clears a stop, if there is one."""
        if self.has_address(pid, at):
            self.memories[pid].clear_stop(at)

    def has_address(self, pid, at):
        return 0 <= pid < len(self.memories) and 0 <= at < ADDRESSES

    def stops(self):
        """The ascending list of the pairs (pid, at) of all stops."""
        return [(pid, at) for pid, memory in enumerate(self.memories) for at in memory.stops()]

    def raw_memory(self, pid):
        """The tuple of the bytes as they are, 255 under each stop."""
        return self.memories[pid].raw_image()
