"""Trees are printed: scripts, actions and expressions in their one form."""

from tapline.levels import COMPARE_LEVEL, IF_LEVEL, MINUS_LEVEL, PRIMARY_LEVEL, SIGN_LEVELS

JOINING_SIGNS = {"or": "||", "and": "&&"}
PREFIX_SIGNS = {"minus": "-", "not": "!"}


def print_script(script):
    """The text of a script, one row for each item."""
    return "".join([shown_item(item) + "\n" for item in script])


def shown_item(item):
    if item[0] == "thread":
        return f"thread {item[1]} {item[2]};"
    if item[0] == "probe":
        return shown_probe(item)
    _, kind, name, keys = item
    if keys:
        joined = ", ".join(keys)
        return f"{kind} {name}[{joined}];"
    return f"{kind} {name};"


def shown_probe(probe):
    _, patterns, predicate, own, actions = probe
    words = ["probe", ", ".join([shown_pattern(pattern) for pattern in patterns])]
    if predicate is not None:
        words.append("when")
        words.append(print_expr(predicate))
    words.append("{")
    for kind, name in own:
        words.append(f"{kind} {name};")
    for action in actions:
        words.append(print_action(action))
    words.append("}")
    return " ".join(words)


def shown_pattern(pattern):
    word, number, place = pattern
    if place is not None:
        return f"{word}:{shown_which(number)}:{place}"
    if number is not None:
        return f"{word}:{number}"
    return word


def shown_which(number):
    if number is None:
        return "*"
    return str(number)


def print_action(action):
    """The text of an action, with its semicolon."""
    word = action[0]
    if word == "set":
        return f"{print_expr(action[1])} = {print_expr(action[2])};"
    if word == "put":
        return shown_put(action)
    if word == "stop":
        return "stop();"
    if word in ("trace", "say"):
        return f"{word}({shown_exprs(action[1])});"
    return f"{word}({print_expr(action[1])});"


def shown_put(action):
    _, name, keys, function, value = action
    shown = ""
    if value is not None:
        shown = print_expr(value)
    return f"@{name}{shown_keys(keys)} = {function}({shown});"


def shown_keys(keys):
    if not keys:
        return ""
    return f"[{shown_exprs(keys)}]"


def shown_exprs(exprs):
    return ", ".join([shown_at(expr, IF_LEVEL) for expr in exprs])


def print_expr(expr):
    """The text of an expression."""
    return shown_at(expr, IF_LEVEL)


def shown_at(expr, need):
    """The text of an expression at a place that needs a level."""
    shown = shown_bare(expr)
    if level_of(expr) < need:
        return f"({shown})"
    return shown


def level_of(expr):
    word = expr[0]
    if word == "if":
        return IF_LEVEL
    if word == "op":
        return SIGN_LEVELS[expr[1]]
    if word in JOINING_SIGNS:
        return SIGN_LEVELS[JOINING_SIGNS[word]]
    if word in PREFIX_SIGNS:
        return MINUS_LEVEL
    return PRIMARY_LEVEL


def shown_bare(expr):
    word = expr[0]
    if word == "if":
        condition = shown_at(expr[1], IF_LEVEL + 1)
        return f"{condition} ? {print_expr(expr[2])} : {print_expr(expr[3])}"
    if word == "op":
        return shown_pair(expr[1], expr[2], expr[3])
    if word in JOINING_SIGNS:
        return shown_pair(JOINING_SIGNS[word], expr[1], expr[2])
    if word in PREFIX_SIGNS:
        return PREFIX_SIGNS[word] + shown_at(expr[1], MINUS_LEVEL)
    return shown_primary(expr)


def shown_pair(sign, left, right):
    level = SIGN_LEVELS[sign]
    need = level
    if level == COMPARE_LEVEL:
        need = level + 1
    return f"{shown_at(left, need)} {sign} {shown_at(right, level + 1)}"


def shown_primary(expr):
    word = expr[0]
    if word == "int":
        return str(expr[1])
    if word == "str":
        return "\"" + expr[1] + "\""
    if word == "arg":
        return f"arg{expr[1]}"
    if word == "reg":
        return f"r{expr[1]}"
    if word == "cell":
        return expr[1] + shown_keys(expr[2])
    if word == "self":
        return f"self.{expr[1]}"
    if word == "ask":
        return f"{expr[1]}({shown_exprs(expr[2])})"
    return expr[1]
