"""The traced machine."""

from tapline.board import Board
from tapline.memories import PlainMemory
from tapline.picks import do_pick


class Machine:
    """A machine of several processors; it does not know that it is traced."""

    def __init__(self, programs, rates):
        """Processes with these programs, processors with these rates."""
        self.board = Board([PlainMemory(program) for program in programs], rates)

    def step(self, pick):
        """Does a pick; returns the list of the views of its events, in order."""
        return do_pick(self.board, pick)

    def state(self):
        """The tuple (memories, threads, ready, processors, device)."""
        return self.board.state()
