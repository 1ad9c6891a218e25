"""Speculations: records that wait for what will become of them."""

from tapline.buffers import Buffer


class Speculations:
    """Places for speculations, each with a room for records."""

    def __init__(self, places, room):
        self.places = places
        self.room = room
        self.lost = 0
        # How many numbers were given, and the records of each open speculation under its number.
        self.given = 0
        self.waiting = {}

    def begin(self):
        """Opens a speculation; returns its number, or 0 if all places are taken."""
        if len(self.waiting) >= self.places:
            return 0
        self.given += 1
        self.waiting[self.given] = Buffer(self.room, "hold")
        return self.given

    def is_open(self, number):
        return number in self.waiting

    def add(self, number, record):
        """Adds a record to an open speculation, if there is room for it; tells whether it did."""
        added = self.waiting[number].add(record)
        if not added:
            self.lost += 1
        return added

    def held(self, number):
        """The tuple of the items of an open speculation."""
        return self.waiting[number].held()

    def commit(self, number, buffer):
        """Adds the items of an open speculation to a buffer as a block; tells whether it took them."""
        return buffer.add_block(self.waiting.pop(number).held())

    def discard(self, number):
        """An open speculation goes nowhere."""
        del self.waiting[number]
