"""Points 6.12 to 6.14 once more: rows of texts as patterns, and code as bytes."""

import re

from tapline.code import WORDS

REGISTER, INDEX, NUMBER = "[0-7]", "(?:0|[1-9][0-9]*)", "(?:0|-?[1-9][0-9]*)"
CHARACTERS = "[ !#$&'-[\\]-~]"
SIGN, ORDER = "(?:[-+*/]|mod)", "(?:==|!=|<=?|>=?)"
PLACES = "(?P<many>0|[1-9][0-9]*)(?P<places>(?: 0| [1-9][0-9]*)*)"
PATTERNS = [
    f"const {REGISTER} int (?P<number>{NUMBER})", f"const {REGISTER} str (?P<length>0|[1-9][0-9]?) '(?P<text>{CHARACTERS}*)",
    f"view {REGISTER} (?:now|cpu|pid|tid|at|name)", f"(?:arg|reg) {REGISTER} [0-3]", f"(?:get|global|thread) {REGISTER} {INDEX}",
    f"keep {INDEX} {REGISTER}", f"array {REGISTER} {INDEX} {PLACES}", f"op {REGISTER} {SIGN} {REGISTER} {REGISTER}",
    f"compare {REGISTER} {ORDER} {REGISTER} {REGISTER}", f"(?:minus|not|len|text|byte) {REGISTER} {REGISTER}",
    f"cat {REGISTER} {REGISTER} {REGISTER}", f"sub {REGISTER} {REGISTER} {REGISTER} {REGISTER}", f"spec {REGISTER}", f"jump {INDEX}",
    f"zero {REGISTER} {INDEX}", f"(?:setglobal|setthread) {INDEX} {REGISTER}", f"setarray {INDEX} {PLACES} {REGISTER}",
    f"record (?:trace|say) {PLACES}", f"put {INDEX} {PLACES} (?:{REGISTER}|-1)", f"(?:speculate|commit|discard) {REGISTER}", "stop|skip|end",
]


def is_row(row):
    for pattern in PATTERNS:
        found = re.fullmatch(pattern, row)
        if found:
            told = found.groupdict()
            if "number" in told:
                return -2 ** 63 <= int(told["number"]) < 2 ** 63
            if "text" in told:
                return int(told["length"]) == len(told["text"]) <= 32
            if "many" in told:
                return int(told["many"]) == len(told["places"].split())
            return True
    return False


def first_wrong(text):
    """The number of the first wrong row, or None."""
    rows = text.split("\n")
    in_places = True
    for k, row in enumerate(rows[:-1], 1):
        if in_places and row in ("place int", "place str"):
            continue
        in_places = False
        if not is_row(row):
            return k
    return len(rows) if rows[-1] else None


def count(n):
    digits = []
    while not digits or n:
        digits.append(n % 128)
        n //= 128
    return [digit + 128 for digit in digits[:-1]] + digits[-1:]


def row_bytes(row):
    found = [WORDS.index(row[0])]
    registers = {"setglobal": (2,), "setthread": (2,), "setarray": (3,), "put": (3,), "keep": (2,), "zero": (1,), "speculate": (1,),
                 "commit": (1,), "discard": (1,), "jump": (), "record": ()}.get(row[0])
    if registers is None:
        registers = (1,) if row[0] in ("const", "view", "arg", "reg", "get", "global", "thread", "array", "spec") else range(1, 9)
    signs = {"view": "now cpu pid tid at name", "op": "+ - * / mod", "compare": "== != < <= > >=", "record": "trace say"}
    for k, part in enumerate(row[1:], 1):
        if isinstance(part, str):
            found.append(signs[row[0]].split().index(part))
        elif row[0] == "const" and k == 2:
            found += [0] + list((part[1] % 2 ** 64).to_bytes(8, "little")) if part[0] == "int" else \
                [1, len(part[1])] + [ord(c) for c in part[1]]
        elif isinstance(part, tuple):
            found += count(len(part)) + [byte for place in part for byte in count(place)]
        elif k in registers:
            found.append(part & 255)
        else:
            found += count(part)
    return found


def code_bytes(code):
    kinds, rows = code
    return count(len(kinds)) + [int(kind == "str") for kind in kinds] + count(len(rows)) + [byte for row in rows for byte in row_bytes(row)]
