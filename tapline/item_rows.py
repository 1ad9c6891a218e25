"""Rows of items: records, and how many were lost between them."""


def is_lost(item):
    """Tells whether an item is ("lost", n); the last member of a record is the tuple of its values."""
    return not isinstance(item[-1], tuple)


class ItemRow:
    """Items in order, of which no two lost ones stand side by side."""

    def __init__(self):
        self.inner = []

    def add(self, item):
        """Adds an item at the end."""
        if is_lost(item):
            self.add_lost(item[1])
        else:
            self.inner.append(item)

    def add_lost(self, n):
        """So many records are lost at the end."""
        if self.inner and is_lost(self.inner[-1]):
            n = n + self.inner.pop()[1]
        self.inner.append(("lost", n))

    def lose_first(self):
        """Takes the first record away, of which there is one, and returns it; it is lost in its place."""
        n = 1
        item = self.inner.pop(0)
        if is_lost(item):
            n = n + item[1]
            item = self.inner.pop(0)
        if self.inner and is_lost(self.inner[0]):
            n = n + self.inner.pop(0)[1]
        self.inner.insert(0, ("lost", n))
        return item

    def image(self):
        """The tuple of the items."""
        return tuple(self.inner)
