"""Programs for the traced machine, in words."""


def memory(program):
    """The 256 bytes of a process that begins with this program."""
    return tuple(program) + (0,) * (256 - len(program))


def number(r, value, other):
    """Rows that give a register any number; they use another register."""
    low = (1, r, value % 256)
    if value < 256:
        return low
    return (1, r, value // 256) + (2, 5 * r) * 8 + (1, other, value % 256) + (2, 4 * r + other)


def steps(machine, many, cpu=0, what="step"):
    """Does a pick several times; the views of all of them."""
    views = []
    for _ in range(many):
        views += machine.step((cpu, what))
    return views


def events(views):
    return [event for event, _, _ in views]


def until(machine, kind, cpu=0, most=200):
    """Steps until there is an event of this kind; the views of the last pick."""
    for _ in range(most):
        views = machine.step((cpu, "step"))
        if kind in [event[0] for event, _, _ in views]:
            return views
    raise AssertionError(kind)
