"""Clauses are compiled to code."""

from tapline.kinds import expr_kind
from tapline.row_parts import CHOICES
from tapline.values import zero

# An expression is worked out in a register and those above it. This one is the last that may hold an
# operand while others are worked out; behind it operands wait in places, and come back to the two
# registers above it, which are never used for anything else (no row has more than three operands).
TOP = 5

TRUE = ("int", 1)


def compile_clause(script, index):
    """The code of a clause of a typed script."""
    _, predicate, own, actions = script[4][index]
    builder = Builder(script, own)
    builder.begin_places()
    if predicate is not None:
        builder.work_out(predicate, 0)
        leaving = builder.emit_aimed(("zero", 0))
        builder.do_actions(actions)
        builder.aim(leaving)
    else:
        builder.do_actions(actions)
    builder.emit(("end",))
    return tuple(builder.kinds), tuple(builder.rows)


class Builder:
    """The code of a clause, as far as it is made."""

    def __init__(self, script, own):
        """own are the kinds of the locals."""
        self.script = script
        self.own = own
        self.kinds = list(own)
        self.rows = []
        # The places behind the locals whose values are needed no more.
        self.free = []

    def emit(self, row):
        self.rows.append(row)

    def emit_aimed(self, row):
        """Adds a jump or zero without its target; returns its index, for aim."""
        self.rows.append(row)
        return len(self.rows) - 1

    def aim(self, r):
        """The target of the row r is the row that is added next."""
        self.rows[r] = self.rows[r] + (len(self.rows),)

    def take_place(self, kind):
        """A place of this kind that nothing else uses."""
        fitting = [place for place in self.free if self.kinds[place] == kind]
        if fitting:
            self.free.remove(fitting[0])
            return fitting[0]
        self.kinds.append(kind)
        return len(self.kinds) - 1

    def give_back(self, places):
        """The values of places are needed no more; those of locals are kept."""
        for place in places:
            if place >= len(self.own):
                self.free.append(place)

    def begin_places(self):
        """The locals begin with zero values."""
        for place, kind in enumerate(self.own):
            self.emit(("const", 0, zero(kind)))
            self.emit(("keep", place, 0))

    def do_actions(self, actions):
        for action in actions:
            word = action[0]
            if word == "set":
                self.do_set(action[1], action[2])
            elif word == "put":
                self.do_put(action)
            elif word in ("trace", "say"):
                places = self.kept_all(action[1], 0)
                self.emit(("record", word, places))
                self.give_back(places)
            elif word == "stop":
                self.emit(("stop",))
            else:
                self.work_out(action[1], 0)
                self.emit((word, 0))

    def do_set(self, target, expr):
        word = target[0]
        i = target[1]
        places = ()
        if word == "array":
            places = self.kept_all(target[2], 0)
        self.work_out(expr, 0)
        if word == "local":
            self.emit(("keep", i, 0))
        elif word == "global":
            self.emit(("setglobal", i, 0))
        elif word == "thread":
            self.emit(("setthread", i, 0))
        else:
            self.emit(("setarray", i, places, 0))
        self.give_back(places)

    def do_put(self, action):
        _, i, keys, expr = action
        places = self.kept_all(keys, 0)
        if expr is None:
            self.emit(("put", i, places, -1))
        else:
            self.work_out(expr, 0)
            self.emit(("put", i, places, 0))
        self.give_back(places)

    def kept_all(self, exprs, d):
        """The tuple of the places in which the values of expressions are; the caller gives them back."""
        return tuple([self.kept(expr, d) for expr in exprs])

    def kept(self, expr, d):
        if expr[0] == "local":
            # No expression changes a local, so its own place will do.
            return expr[1]
        self.work_out(expr, d)
        return self.put_away(expr, d)

    def put_away(self, expr, d):
        """Keeps the value of an expression, which is in the register d, in a place."""
        place = self.take_place(expr_kind(self.script, self.own, expr))
        self.emit(("keep", place, d))
        return place

    def work_out(self, expr, d):
        """Rows that put the value of an expression into the register d and change none below it."""
        word = expr[0]
        if word in ("int", "str"):
            self.emit(("const", d, expr))
        elif word in CHOICES["view"]:
            self.emit(("view", d, word))
        elif word in ("arg", "reg", "global", "thread"):
            self.emit((word, d, expr[1]))
        elif word == "local":
            self.emit(("get", d, expr[1]))
        elif word == "array":
            places = self.kept_all(expr[2], d)
            self.emit(("array", d, expr[1], places))
            self.give_back(places)
        elif word == "and":
            self.work_out_and(expr, d)
        elif word == "or":
            self.work_out_or(expr, d)
        elif word == "if":
            self.work_out_if(expr, d)
        elif word in ("op", "same"):
            self.work_out_signed(expr, d)
        else:
            self.emit((word, d) + self.operands(expr[1:], d))

    def work_out_signed(self, expr, d):
        sign = expr[1]
        word = "compare"
        if sign in CHOICES["sign"]:
            word = "op"
        self.emit((word, d, sign) + self.operands(expr[2:], d))

    def work_out_and(self, expr, d):
        _, first, second = expr
        self.work_out(first, d)
        leaving = self.emit_aimed(("zero", d))
        self.work_out_truth(second, d)
        self.aim(leaving)

    def work_out_or(self, expr, d):
        _, first, second = expr
        self.work_out(first, d)
        otherwise = self.emit_aimed(("zero", d))
        self.emit(("const", d, TRUE))
        leaving = self.emit_aimed(("jump",))
        self.aim(otherwise)
        self.work_out_truth(second, d)
        self.aim(leaving)

    def work_out_truth(self, expr, d):
        """Puts the truth of a number, 1 or 0, into the register d."""
        self.work_out(expr, d)
        leaving = self.emit_aimed(("zero", d))
        self.emit(("const", d, TRUE))
        self.aim(leaving)

    def work_out_if(self, expr, d):
        _, condition, yes, no = expr
        self.work_out(condition, d)
        otherwise = self.emit_aimed(("zero", d))
        self.work_out(yes, d)
        done = self.emit_aimed(("jump",))
        self.aim(otherwise)
        self.work_out(no, d)
        self.aim(done)

    def operands(self, exprs, d):
        """The tuple of the registers, d or above it, in which the values of expressions are."""
        found = []
        waiting = []
        for k, expr in enumerate(exprs):
            at = min(d + k, TOP)
            self.work_out(expr, at)
            if at == TOP and k + 1 < len(exprs):
                waiting.append(self.put_away(expr, at))
            else:
                found.append(at)
        back = [TOP + 1 + k for k in range(len(waiting))]
        for a, place in zip(back, waiting):
            self.emit(("get", a, place))
        self.give_back(waiting)
        # Those that wait stand before the last operand, which is in the register TOP then.
        if waiting:
            return tuple(found[:-1] + back + found[-1:])
        return tuple(found)
