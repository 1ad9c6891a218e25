"""Expressions are evaluated."""

from tapline.operations import arg_value, byte_value, computed, view_value
from tapline.row_parts import CHOICES
from tapline.values import zero


class Scene:
    """What the expressions of a clause are evaluated with: a view, a store, and the locals."""

    def __init__(self, view, store, kinds):
        """kinds are those of the locals, which begin with zero values."""
        self.event, self.regs, self.memory = view
        self.store = store
        self.own = [zero(kind) for kind in kinds]

    def values_of(self, exprs):
        """The tuple of the values of expressions, evaluated from left to right."""
        return tuple([self.value_of(expr) for expr in exprs])

    def number_of(self, expr):
        """The number that an expression of the kind "int" gives."""
        return self.value_of(expr)[1]

    def value_of(self, expr):
        word = expr[0]
        if word in ("int", "str"):
            return expr
        if word in CHOICES["view"]:
            return view_value(self.event, word)
        if word == "arg":
            return arg_value(self.event, expr[1])
        if word == "reg":
            return ("int", self.regs[expr[1]])
        if word in ("and", "or", "if"):
            return self.chosen(expr)
        if word in ("global", "local", "thread", "array"):
            return self.variable(expr)
        if word == "spec":
            return ("int", self.store.spec())
        if word == "byte":
            return byte_value(self.memory, self.number_of(expr[1]))
        if word == "op":
            return computed(word, expr[1], self.values_of(expr[2:]))
        if word == "same":
            return computed("compare", expr[1], self.values_of(expr[2:]))
        return computed(word, "", self.values_of(expr[1:]))

    def chosen(self, expr):
        """An and, an or, or an if: which of the parts behind the first one is evaluated depends on that."""
        word = expr[0]
        holds = self.number_of(expr[1]) != 0
        if word == "if":
            if holds:
                return self.value_of(expr[2])
            return self.value_of(expr[3])
        if word == "and" and holds or word == "or" and not holds:
            holds = self.number_of(expr[2]) != 0
        return ("int", int(holds))

    def variable(self, expr):
        word = expr[0]
        i = expr[1]
        if word == "local":
            return self.own[i]
        if word == "global":
            return self.store.global_value(i)
        if word == "thread":
            return self.store.thread_value(self.event[4], i)
        return self.store.array_value(i, self.values_of(expr[2]))

    def set_local(self, i, value):
        self.own[i] = value
