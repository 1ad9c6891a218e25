"""Faults end what a clause does."""

from tapline.errors import TapError


class Fault(TapError):
    """What ends a clause; the word says why. It never leaves the program: the clause tells it by a deed."""

    def __init__(self, word):
        super().__init__(f"{word}")
        self.word = word
