"""Code is run."""

from tapline.code import writes
from tapline.doer import Doer
from tapline.faults import Fault
from tapline.limits import LAST_REGISTER
from tapline.operations import arg_value, byte_value, computed, view_value
from tapline.row_parts import operands_of, sign_of


def run_code(code, view, store):
    """The tuple of the deeds of code at a view, with a store, which is asked and told."""
    return Run(code, view, store).deeds_of_all()


class Run:
    """Code that is being run."""

    def __init__(self, code, view, store):
        kinds, self.rows = code
        self.event, self.regs, self.memory = view
        self.store = store
        self.doer = Doer(store, self.event[4])
        # The registers of the code; those of the machine are regs.
        self.cells = [None] * (LAST_REGISTER + 1)
        self.places = [None] * len(kinds)
        self.coming = 0

    def deeds_of_all(self):
        """Does the rows up to the end, and returns the deeds."""
        try:
            while self.coming < len(self.rows):
                row = self.rows[self.coming]
                self.coming += 1
                self.do_row(row)
        except Fault as why:
            self.doer.fault(why.word)
        return self.doer.told()

    def leave(self):
        """No row comes any more."""
        self.coming = len(self.rows)

    def do_row(self, row):
        word = row[0]
        if writes(row) >= 0:
            self.cells[row[1]] = self.value_of(row)
        elif word == "keep":
            self.places[row[1]] = self.cells[row[2]]
        elif word == "jump":
            self.coming = row[1]
        elif word == "zero":
            if self.cells[row[1]][1] == 0:
                self.coming = row[2]
        elif word == "end":
            self.leave()
        elif word == "stop":
            self.doer.stop()
            self.leave()
        elif word != "skip":
            self.do_action(row)

    def value_of(self, row):
        """The value that a row writes to its register."""
        word = row[0]
        if word == "const":
            return row[2]
        if word == "view":
            return view_value(self.event, row[2])
        if word == "arg":
            return arg_value(self.event, row[2])
        if word == "reg":
            return ("int", self.regs[row[2]])
        if word == "get":
            return self.places[row[2]]
        if word == "global":
            return self.store.global_value(row[2])
        if word == "thread":
            return self.store.thread_value(self.event[4], row[2])
        if word == "array":
            return self.store.array_value(row[2], self.held(row[3]))
        if word == "spec":
            return ("int", self.store.spec())
        operands = [self.cells[a] for a in operands_of(row)]
        if word == "byte":
            return byte_value(self.memory, operands[0][1])
        return computed(word, sign_of(row), operands)

    def do_action(self, row):
        word = row[0]
        if word == "setglobal":
            self.doer.set_global(row[1], self.cells[row[2]])
        elif word == "setthread":
            self.doer.set_thread(row[1], self.cells[row[2]])
        elif word == "setarray":
            self.doer.set_array(row[1], self.held(row[2]), self.cells[row[3]])
        elif word == "record":
            self.doer.record(row[1], self.held(row[2]))
        elif word == "put":
            self.doer.put(row[1], self.held(row[2]), self.number(row[3]))
        elif word == "speculate":
            self.doer.speculate(self.number(row[1]))
        elif word == "commit":
            self.doer.commit(self.number(row[1]))
        else:
            self.doer.discard(self.number(row[1]))

    def number(self, a):
        """The number in a register, or None for no register."""
        if a < 0:
            return None
        return self.cells[a][1]

    def held(self, places):
        """The tuple of the values of places."""
        return tuple([self.places[p] for p in places])
