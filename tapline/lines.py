"""Lines: items and tables as texts."""

from tapline.characters import in_script
from tapline.decimals import decimal, natural_in, whole_in
from tapline.errors import BadLine
from tapline.forms import is_value
from tapline.item_rows import is_lost


def line_of(cpu, item):
    """The line of an item of a processor's buffer."""
    if is_lost(item):
        return f"{decimal(cpu)} lost {decimal(item[1])}"
    time, clause, sort, values = item
    shown = "".join([plain(value) for value in values])
    if sort == "trace":
        shown = listed(values)
    return f"{decimal(cpu)} @{decimal(time)} {decimal(clause)} {sort}: {shown}"


def plain(value):
    """A value without quotation marks."""
    kind, held = value
    if kind == "int":
        return decimal(held)
    return held


def listed(values):
    """Values as a trace and the keys of a table show them."""
    return ", ".join([marked(value) for value in values])


def marked(value):
    """A value; a text stands in quotation marks."""
    if value[0] == "int":
        return plain(value)
    return "\"" + plain(value) + "\""


def table_lines(script, merged):
    """The list of the lines of the merged tables of a typed script, a dict for each."""
    lines = []
    for (name, _, function), table in zip(script[3], merged):
        for key in sorted(list(table)):
            lines.append(f"{named(name, key)} = {shown_result(function, table[key])}")
    return lines


def named(name, key):
    if not key:
        return name
    return f"{name}[{listed(key)}]"


def shown_result(function, result):
    """What a function keeps, as a text."""
    if function != "hist":
        return decimal(result)
    return " ".join([f"{decimal(k)}:{decimal(many)}" for k, many in result])


def item_of(line):
    """The pair of the processor and the item that a line shows."""
    parts = line.split(" ", 4)
    if len(parts) == 3 and parts[1] == "lost":
        return natural(parts[0]), ("lost", positive(parts[2]))
    if len(parts) < 5 or not parts[1].startswith("@"):
        raise BadLine()
    cpu, time, clause, sort, rest = parts
    values = values_in(sort, rest)
    return natural(cpu), (natural(time[1:]), natural(clause), sort[:-1], values)


def natural(text):
    n = natural_in(text)
    if n is None:
        raise BadLine()
    return n


def positive(text):
    n = natural(text)
    if n == 0:
        raise BadLine()
    return n


def values_in(sort, rest):
    """The tuple of the values that stand behind the sort of a record and its colon."""
    if sort == "trace:":
        return values_listed(rest)
    if sort == "say:" and all([in_script(character) for character in rest]):
        return (("str", rest),)
    if sort == "fault:" and is_word(rest):
        return (("str", rest),)
    raise BadLine()


def is_word(text):
    return text != "" and all(["a" <= character <= "z" for character in text])


def values_listed(text):
    """The tuple of the values of a trace."""
    if text == "":
        return ()
    values = []
    begin = 0
    while True:
        end = value_end(text, begin)
        values.append(value_in(text[begin:end]))
        if end == len(text):
            return tuple(values)
        if text[end:end + 2] != ", ":
            raise BadLine()
        begin = end + 2


def value_end(text, begin):
    """The index behind the value that begins at an index; for a text without an end it is 0."""
    if text[begin:begin + 1] == "\"":
        # What stands between the marks may contain commas.
        return text.find("\"", begin + 1) + 1
    end = text.find(",", begin)
    if end < 0:
        return len(text)
    return end


def value_in(text):
    """The value that a text shows."""
    value = ("int", whole_in(text))
    if text.startswith("\""):
        value = ("str", text[1:-1])
    if not is_value(value):
        raise BadLine()
    return value
