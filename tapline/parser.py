"""Scripts are parsed: texts become trees."""

from tapline.expressions import ExprReader

KINDS = ("int", "str")
FUNCTIONS = ("count", "sum", "least", "most", "hist")


def parse(text):
    """The tree of a script: the tuple of its items."""
    return ScriptReader(text).read_script()


def parse_expr(text):
    """The tree of a text that is one expression."""
    reader = ExprReader(text)
    expr = reader.read_expr()
    reader.take("end")
    return expr


class ScriptReader(ExprReader):
    """Reads the items of a script."""

    def read_script(self):
        items = []
        while self.kind() != "end":
            items.append(self.read_item())
        return tuple(items)

    def read_item(self):
        if self.skip("thread"):
            kind, name = self.read_named()
            return ("thread", kind, name)
        if self.skip("probe"):
            return self.read_probe()
        kind = self.read_kind()
        name = self.take("name")
        keys = ()
        if self.skip("["):
            keys = self.listed(self.read_kind)
            self.need("]")
        self.need(";")
        return ("var", kind, name, keys)

    def read_kind(self):
        return self.choose(KINDS)

    def read_named(self):
        """The pair of the kind and the name of a variable without keys."""
        kind = self.read_kind()
        name = self.take("name")
        self.need(";")
        return (kind, name)

    def read_probe(self):
        patterns = self.listed(self.read_pattern)
        predicate = None
        if self.skip("when"):
            predicate = self.read_expr()
        self.need("{")
        own = []
        while self.fixed() in KINDS:
            own.append(self.read_named())
        actions = []
        while not self.skip("}"):
            actions.append(self.read_action())
        return ("probe", patterns, predicate, tuple(own), tuple(actions))

    def read_pattern(self):
        word = self.fixed()
        if word in ("at", "name"):
            self.skip(word)
        else:
            word = self.take("name")
        number = None
        place = None
        if self.skip(":"):
            number = self.read_which()
            if self.skip(":"):
                place = self.read_which()
        return (word, number, place)

    def read_which(self):
        """A number, or None for any."""
        if self.skip("*"):
            return None
        return int(self.take("number"))

    def read_action(self):
        word = self.fixed()
        if self.skip("@"):
            action = self.read_put()
        elif word in ("trace", "say"):
            self.skip(word)
            action = (word, self.read_values())
        elif word in ("speculate", "commit", "discard"):
            self.skip(word)
            self.need("(")
            action = (word, self.read_expr())
            self.need(")")
        elif self.skip("stop"):
            self.need("(")
            self.need(")")
            action = ("stop",)
        else:
            place = self.read_place()
            self.need("=")
            action = ("set", place, self.read_expr())
        self.need(";")
        return action

    def read_put(self):
        name = self.take("name")
        keys = ()
        if self.fixed() == "[":
            keys = self.read_keys()
        self.need("=")
        function = self.choose(FUNCTIONS)
        self.need("(")
        value = None
        if not self.skip(")"):
            value = self.read_expr()
            self.need(")")
        return ("put", name, keys, function, value)
