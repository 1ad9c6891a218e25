"""Points 8.1 to 8.5 once more: nothing is ever taken out of a row, but marked as lost in its place."""

import random


def second_size(record):
    return 2 + sum(1 if kind == "int" else 1 + sum(1 for _ in held) for kind, held in record[-1])


def is_record(item):
    return isinstance(item[-1], tuple)


def collapsed(marks):
    """The items of a row of marks (record or None for a lost one, how many)."""
    items = []
    for record, many in marks:
        if record is not None:
            items.append(record)
        elif items and not is_record(items[-1]):
            items[-1] = ("lost", items[-1][1] + many)
        else:
            items.append(("lost", many))
    return tuple(items)


class SecondBuffer:
    """The row of all that was ever added, in parts: one for each reading, and one that is written."""

    def __init__(self, room, policy):
        self.room, self.policy = room, policy
        self.parts = [[]]
        self.lost = 0
        self.given = False

    def used(self):
        return sum(second_size(record) for record, _ in self.parts[-1] if record is not None)

    def add_block(self, items):
        here = self.parts[-1]
        records = [item for item in items if is_record(item)]
        size = sum(second_size(record) for record in records)
        if self.policy == "ring" and size <= self.room:
            for k, (record, _) in enumerate(here):
                if record is not None and self.used() + size > self.room:
                    here[k] = (None, 1)
                    self.lost += 1
        fits = self.used() + size <= self.room
        for item in items:
            if not is_record(item):
                here.append((None, item[1]))
            else:
                here.append((item, 1) if fits else (None, 1))
                self.lost += not fits
        return fits

    def held(self):
        return collapsed(self.parts[-1])

    def switch(self):
        if self.given:
            return None
        self.given = True
        self.parts.append([])
        return collapsed(self.parts[-2])

    def give_back(self):
        self.given = False


def drawn_record(chance, k):
    """A record that no other one is like."""
    values = tuple(chance.choice((("int", chance.randrange(-5, 5)), ("str", "x" * chance.choice((0, 1, 2, 7, 32)))))
                   for _ in range(chance.choice((0, 0, 1, 1, 2, 3))))
    return (k, 0, "trace", values)


def drawn_block(chance, k):
    items = []
    for _ in range(chance.choice((0, 1, 1, 2, 3, 5))):
        if chance.random() < 0.3 and (not items or is_record(items[-1])):
            items.append(("lost", chance.choice((1, 1, 2, 9))))
        else:
            items.append(drawn_record(chance, k))
    return tuple(items)


def drawn_room(chance):
    return chance.choice((0, 1, 2, 3, 4, 7, 10, 20, 35, 40, 100))


def generator(seed):
    return random.Random(seed)
