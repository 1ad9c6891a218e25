"""Aggregations: what functions keep of the numbers that are put under keys."""

from tapline.values import wrap

# The interval of 0 among the intervals of a hist.
MIDDLE = 64


def interval(n):
    """The interval of a number: it goes by the number of its binary digits."""
    if n < 0:
        return MIDDLE - (-n).bit_length()
    return MIDDLE + n.bit_length()


def kept(function, numbers):
    """What a function keeps of a list of numbers, which is not empty; those of count are None."""
    if function == "count":
        return len(numbers)
    if function == "sum":
        return wrap(sum(numbers))
    if function == "least":
        return min(numbers)
    if function == "most":
        return max(numbers)
    return summed_up([(interval(n), 1) for n in numbers])


def join(function, one, other):
    """What a function keeps of two rows of numbers, from what it kept of each."""
    if function == "count":
        return one + other
    if function == "sum":
        return wrap(one + other)
    if function == "least":
        return min(one, other)
    if function == "most":
        return max(one, other)
    return summed_up(one + other)


def summed_up(pairs):
    """The ascending tuple of the pairs (interval, how many), one for each interval."""
    many = {}
    for k, more in pairs:
        many[k] = many.get(k, 0) + more
    return tuple(sorted(many.items()))


def merge(function, tables):
    """The dict of what is kept in a list of dicts together."""
    merged = {}
    for table in tables:
        for key, value in table.items():
            if key in merged:
                merged[key] = join(function, merged[key], value)
            else:
                merged[key] = value
    return merged


class Aggregates:
    """A table of a function, with a limited number of cells for keys."""

    def __init__(self, function, cells):
        self.function = function
        self.cells = cells
        self.lost = 0
        self.found = {}

    def put(self, key, n):
        """Puts a number, for count None, under a key; tells whether there was a cell for it."""
        new = kept(self.function, [n])
        if key in self.found:
            self.found[key] = join(self.function, self.found[key], new)
        elif len(self.found) < self.cells:
            self.found[key] = new
        else:
            self.lost += 1
            return False
        return True

    def look(self):
        """The dict from keys to what is kept under them."""
        return {key: self.found[key] for key in self.found}

    def empty(self):
        """The same; the table is empty then, but what was lost stays counted."""
        found = self.found
        self.found = {}
        return found
