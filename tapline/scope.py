"""What the names of a clause mean."""

from tapline.errors import DoubleName, UnknownName
from tapline.kinds import expr_kind


class Scope:
    """The variables that a clause can name: its locals, and what the script declares."""

    def __init__(self, declared, own):
        """declared are the globals, arrays and threads of the script, own the pairs of the locals."""
        singles, arrays, threads = declared
        self.declared = declared
        self.own = tuple([kind for kind, _ in own])
        self.singles = {name: ("global", i) for i, (name, _) in enumerate(singles)}
        self.arrays = {name: i for i, (name, _, _) in enumerate(arrays)}
        self.threads = {name: i for i, (name, _) in enumerate(threads)}
        self.hide(own)

    def hide(self, own):
        """Puts the locals in the place of the variables and arrays that have their names."""
        seen = {}
        for i, (_, name) in enumerate(own):
            if name in seen:
                raise DoubleName(name)
            seen[name] = True
            self.singles[name] = ("local", i)
            if name in self.arrays:
                del self.arrays[name]

    def single(self, name):
        """The typed expression of a name without keys."""
        if name not in self.singles:
            raise UnknownName(name)
        return self.singles[name]

    def array(self, name):
        """The index of the array of this name, and the kinds of its keys."""
        if name not in self.arrays:
            raise UnknownName(name)
        i = self.arrays[name]
        return i, self.declared[1][i][1]

    def thread(self, name):
        """The typed expression of a thread variable."""
        if name not in self.threads:
            raise UnknownName(name)
        return ("thread", self.threads[name])

    def kind_of(self, expr):
        """The kind of a typed expression of this clause."""
        return expr_kind(self.declared, self.own, expr)

    def kinds_of(self, exprs):
        return tuple([self.kind_of(expr) for expr in exprs])
