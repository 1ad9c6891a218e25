"""Buffers: records in order, in a limited room."""

from tapline.item_rows import ItemRow, is_lost

# What a record takes without its values.
BARE_SIZE = 2


def size_of(record):
    """The room that a record takes."""
    values = record[-1]
    return BARE_SIZE + len(values) + sum([len(held) for kind, held in values if kind == "str"])


class Buffer:
    """A buffer of two halves: one is written, the other one is the reader's or free."""

    def __init__(self, room, policy):
        """The room of the half that is written; the policy is "hold" or "ring"."""
        self.room = room
        self.policy = policy
        self.used = 0
        self.lost = 0
        self.half = ItemRow()
        # The reader's half itself is nothing but the items that switch returned.
        self.reading = False

    def add(self, record):
        """Adds a record, if there is room for it; tells whether it did."""
        return self.add_block((record,))

    def add_block(self, items):
        """Adds a tuple of items as a whole, if there is room for it; tells whether it did."""
        size = sum([size_of(item) for item in items if not is_lost(item)])
        if not self.make_room(size):
            self.lose(items)
            return False
        for item in items:
            self.half.add(item)
        self.used += size
        return True

    def make_room(self, size):
        """Tells whether so much fits at the end; with "ring" the first records give way to it."""
        if self.policy == "ring" and size <= self.room:
            while self.used + size > self.room:
                self.used -= size_of(self.half.lose_first())
                self.lost += 1
        return self.used + size <= self.room

    def lose(self, items):
        """The records of a block are lost at the end, and those that it tells as lost."""
        for item in items:
            if is_lost(item):
                self.half.add(item)
            else:
                self.half.add_lost(1)
                self.lost += 1

    def held(self):
        """The tuple of the items of the half that is written."""
        return self.half.image()

    def switch(self):
        """The tuple of the items that were written; None while the reader has a half."""
        if self.reading:
            return None
        items = self.held()
        self.reading = True
        self.half = ItemRow()
        self.used = 0
        return items

    def give_back(self):
        """The reader needs the items of its half no more."""
        self.reading = False
