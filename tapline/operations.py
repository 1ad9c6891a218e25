"""What expressions, and the rows of code, work out."""

from tapline.faults import Fault
from tapline.limits import ADDRESSES, LONGEST
from tapline.values import apply_op, truth_of, wrap


def view_value(event, word):
    """The value of now, cpu, pid, tid, at or name at an event."""
    kind, cpu, time, pid, tid, at, _ = event
    if word == "name":
        return ("str", kind)
    numbers = {"now": time, "cpu": cpu, "pid": pid, "tid": tid, "at": at}
    return ("int", numbers[word])


def arg_value(event, k):
    """The member k of the args of an event, or 0 if there are fewer."""
    given = event[6]
    if k < len(given):
        return ("int", given[k])
    return ("int", 0)


def byte_value(memory, at):
    """The byte at an address, which does not count modulo 256 here."""
    if not memory or at < 0 or at >= ADDRESSES:
        raise Fault("byte")
    return ("int", memory[at])


def computed(word, sign, operands):
    """What a word makes of the values of its operands; sign is that of an op or a compare."""
    plain = [held for _, held in operands]
    if word == "op":
        return ("int", op_result(sign, plain[0], plain[1]))
    if word == "compare":
        return ("int", truth_of(sign, plain[0], plain[1]))
    if word == "minus":
        return ("int", wrap(-plain[0]))
    if word == "not":
        return ("int", int(plain[0] == 0))
    if word == "len":
        return ("int", len(plain[0]))
    if word == "cat":
        return ("str", joined_text(plain[0], plain[1]))
    if word == "sub":
        return ("str", part_of(plain[0], plain[1], plain[2]))
    return ("str", str(plain[0]))


def op_result(sign, a, b):
    result = apply_op(sign, a, b)
    if result is None:
        raise Fault("division")
    return result


def joined_text(one, other):
    if len(one) + len(other) > LONGEST:
        raise Fault("long")
    return one + other


def part_of(text, first, most):
    """At most so many characters of a text, from an index on."""
    if first < 0 or most < 1:
        return ""
    return text[first:first + most]
