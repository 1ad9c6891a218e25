"""The grammar of point 1.5, word by word, and a recogniser for it that shares nothing with the program.

Terminals are the quoted words and signs in quotation marks, and NAME, NUMBER, TEXT and END.
"""

GRAMMAR = """
script = items END
only = expr END
items = | items item
item = kind NAME ";" | kind NAME "[" kinds "]" ";" | "thread" kind NAME ";" | probe
kinds = kind | kinds "," kind
kind = "int" | "str"
probe = "probe" patterns when "{" locals actions "}"
patterns = pattern | patterns "," pattern
when = | "when" expr
locals = | locals local
actions = | actions action
pattern = word | word ":" which | word ":" which ":" which
word = NAME | "at" | "name"
which = NUMBER | "*"
local = kind NAME ";"
action = place "=" expr ";" | "@" NAME "=" put ";" | "@" NAME "[" exprs "]" "=" put ";"
action = tell "(" ")" ";" | tell "(" exprs ")" ";" | spec "(" expr ")" ";" | "stop" "(" ")" ";"
put = function "(" ")" | function "(" expr ")"
tell = "trace" | "say"
spec = "speculate" | "commit" | "discard"
place = NAME | NAME "[" exprs "]" | "self" "." NAME
function = "count" | "sum" | "least" | "most" | "hist"
exprs = expr | exprs "," expr
expr = either | either "?" expr ":" expr
either = both | either "||" both
both = compare | both "&&" compare
compare = total | total "==" total | total "!=" total | total "<" total | total "<=" total
compare = total ">" total | total ">=" total
total = product | total "+" product | total "-" product
product = unary | product "*" unary | product "/" unary | product "mod" unary
unary = "-" unary | "!" unary | primary
primary = NUMBER | TEXT | "now" | "cpu" | "pid" | "tid" | "at" | "name" | place
primary = "arg0" | "arg1" | "arg2" | "arg3" | "r0" | "r1" | "r2" | "r3"
primary = ask "(" ")" | ask "(" exprs ")" | "(" expr ")"
ask = "len" | "cat" | "sub" | "text" | "byte" | "spec"
"""


def rules():
    found = {}
    for row in GRAMMAR.strip().split("\n"):
        head, _, body = row.partition(" = ")
        for way in body.split(" | ") if not body.startswith("|") else [""] + body[1:].split(" | "):
            found.setdefault(head.strip(), []).append(tuple(way.split()))
    return found


RULES = rules()


def terminal(token):
    kind, text = token[0], token[1]
    if kind in ("keyword", "sign"):
        return '"' + text + '"'
    return kind.upper()


def first_wrong(tokens, start):
    """The index of the first token that no sentence with the tokens before it has here, or None."""
    states = {(start, way, 0, 0) for way in RULES[start]}
    chart = [closed(states, [], 0)]
    for k, token in enumerate(tokens):
        word = terminal(token)
        moved = {(head, way, dot + 1, origin) for head, way, dot, origin in chart[k]
                 if dot < len(way) and way[dot] == word}
        if not moved:
            return k
        chart.append(closed(moved, chart, k + 1))
    return None


def closed(states, chart, here):
    states = set(states)
    todo = list(states)
    empty = set()
    while todo:
        head, way, dot, origin = todo.pop()
        new = []
        if dot == len(way):
            behind = states if origin == here else chart[origin]
            if origin == here:
                empty.add(head)
            new = [(h, w, d + 1, o) for h, w, d, o in behind if d < len(w) and w[d] == head]
        elif way[dot] in RULES:
            new = [(way[dot], other, 0, here) for other in RULES[way[dot]]]
            if way[dot] in empty:
                new.append((head, way, dot + 1, origin))
        for state in new:
            if state not in states:
                states.add(state)
                todo.append(state)
    return states
