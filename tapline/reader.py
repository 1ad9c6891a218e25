"""The reader: what was read from the processors, put together."""

from tapline.aggregates import merge
from tapline.item_rows import ItemRow, is_lost
from tapline.lines import line_of


def joined(items):
    """The tuple of the items, in which lost ones that stood side by side are one."""
    row = ItemRow()
    for item in items:
        row.add(item)
    return row.image()


def merge_tables(script, tables):
    """The tuple of the merged dicts of a list of tuples of dicts, one for each table of the script."""
    return tuple([merge(table[2], [found[i] for found in tables]) for i, table in enumerate(script[3])])


class Reader:
    """The items of the processors of a session, as far as they were read."""

    def __init__(self, cpus):
        """For the processors 0 to cpus - 1."""
        self.rows = [ItemRow() for _ in range(cpus)]

    def take(self, cpu, items):
        """Takes a reading of a processor; returns the list of its lines."""
        for item in items:
            self.rows[cpu].add(item)
        return [line_of(cpu, item) for item in items]

    def row(self, cpu):
        """The tuple of the joined items of a processor."""
        return self.rows[cpu].image()

    def merged(self):
        """The list of the pairs (cpu, item) of all rows merged."""
        ranked = []
        for cpu in range(len(self.rows)):
            rank = 0
            for k, item in enumerate(self.row(cpu)):
                if not is_lost(item):
                    rank = max(rank, item[0])
                ranked.append((rank, cpu, k, item))
        return [(cpu, item) for _, cpu, _, item in sorted(ranked)]

    def lost(self):
        """How many records the items tell as lost."""
        return sum([item[1] for cpu in range(len(self.rows)) for item in self.row(cpu) if is_lost(item)])
