"""Tracing: scripts are put into a machine and taken out while it runs."""

from tapline.limits import ADDRESSES
from tapline.session import Session
from tapline.stops import StoppedMachine


class Tracer:
    """A machine with stops, and the sessions of the scripts that were put in."""

    def __init__(self, programs, rates):
        self.machine = StoppedMachine(programs, rates)
        self.processes = len(programs)
        # All sessions under their numbers, and the scripts of those that are in.
        self.sessions = {}
        self.inside = {}

    def put_in(self, script, sizes, codes):
        """Begins a session; returns its number."""
        number = len(self.sessions)
        self.sessions[number] = Session(script, sizes, codes)
        self.inside[number] = script
        self.tell(number, "begin")
        self.place_stops()
        return number

    def take_out(self, number):
        """Ends the session with this number, if it is in."""
        if not self.is_in(number):
            return
        self.tell(number, "close")
        del self.inside[number]
        self.place_stops()

    def tell(self, number, kind):
        """Gives a session the view of its begin or close."""
        _, _, _, processors, _ = self.machine.state()
        event = (kind, 0, processors[0][0], -1, -1, -1, ())
        self.sessions[number].handle((event, (0, 0, 0, 0), ()))

    def place_stops(self):
        """Sets and clears stops until they are those that the sessions need."""
        needed = self.places_needed()
        for pid, at in self.machine.stops():
            if (pid, at) not in needed:
                self.machine.clear_stop(pid, at)
        for pid, at in needed:
            self.machine.set_stop(pid, at)

    def places_needed(self):
        """The dict whose keys are the places (pid, at) at which the sessions that are in need stops."""
        needed = {}
        for script in self.inside.values():
            for pattern in insn_patterns(script):
                for pid in those_named(pattern[1], self.processes):
                    for at in those_named(pattern[2], ADDRESSES):
                        needed[(pid, at)] = True
        return needed

    def step(self, pick):
        """Does a pick; returns the tuple of the views that the machine told."""
        views = tuple(self.machine.step(pick))
        for number in self.inside:
            for view in views:
                self.sessions[number].handle(view)
        return views

    def session(self, number):
        """The session with this number, whether it is in or not."""
        return self.sessions[number]

    def is_in(self, number):
        """Tells whether this is the number of a session that is in."""
        return number in self.inside


def insn_patterns(script):
    """The list of the patterns of a script that name instructions."""
    return [pattern for clause in script[4] for pattern in clause[0] if pattern[0] == "insn"]


def those_named(wanted, many):
    """The list of the numbers from 0 to many - 1 that a part of a pattern names; None stands for all."""
    return [n for n in range(many) if wanted is None or n == wanted]
