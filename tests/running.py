"""Makers of random programs that do something when they run: loops, functions that are passed on, rules in force."""

from tests.examples import DOES, KINDS, PARTS


class Maker:
    """Makes expressions, most of them of the kind of value that is asked for: "int" or "fn" (from int to int)."""

    def __init__(self, random, levels=3, nested_lets=True):
        self.random = random
        self.levels = levels
        self.nested_lets = nested_lets
        self.in_let = False

    def program(self, depth):
        """A program: some rules around something that runs."""
        made = self.expression("int", depth, (), None, 0)
        for _ in range(self.random.choice([0, 1, 1, 2, 2, 3])):
            kind = self.random.choice(KINDS)
            made = ("rule", kind, self.rule(kind, depth - 1, 0), made)
        return made

    def rule(self, kind, depth, level):
        wanted = "fn" if kind == "fn" and self.random.random() < 0.7 else "int"
        return self.expression(wanted, depth, (), kind, level + 1)

    def expression(self, wanted, depth, names, about, level):
        """An expression; names are pairs of a name and the kind of its value."""
        if self.random.random() < 0.02:
            wanted = self.random.choice(["int", "fn"])
        if depth <= 1:
            return self.leaf(wanted, names, about)
        choices = ["leaf", "let", "let", "if", "changing", "call"]
        choices += ["sum", "sum", "less", "say", "say", "loop"] if wanted == "int" else ["fn", "fn", "fn"]
        if about is not None:
            choices += ["ask"] * 5
        make = getattr(self, "make_" + self.random.choice(choices))
        return make(wanted, depth - 1, names, about, level)

    def leaf(self, wanted, names, about):
        fitting = [("name", name) for name, found in names if found == wanted]
        if about is not None and self.random.random() < 0.6:
            return self.asking_leaf(wanted, about)
        if fitting and self.random.random() < 0.7:
            return self.random.choice(fitting)
        if wanted == "fn":
            return ("fn", "k", ("name", "k"))
        return ("num", self.random.choice([0, 1, 1, 2, 3, -1]))

    def asking_leaf(self, wanted, about):
        choices = [("usual",)]
        for i in range(PARTS[about]):
            if (about == "call" and i == 0) == (wanted == "fn"):
                choices.append(("part", i))
        return self.random.choice(choices)

    def make_leaf(self, wanted, depth, names, about, level):
        return self.leaf(wanted, names, about)

    def make_ask(self, wanted, depth, names, about, level):
        if about == "let" and self.random.random() < 0.6:
            return ("with", self.expression("int", depth, names, about, level))
        if about in DOES and self.random.random() < 0.6:
            if about == "call":
                return ("do", (self.random.choice([("part", 0), ("part", 0), ("usual",)]),
                               self.expression("int", depth, names, about, level)))
            return ("do", tuple([self.expression("int", depth, names, about, level) for _ in range(DOES[about])]))
        return self.asking_leaf(wanted, about)

    def make_let(self, wanted, depth, names, about, level):
        if self.in_let and not self.nested_lets:
            return self.leaf(wanted, names, about)
        kind = self.random.choice(["int", "int", "fn"])
        name = self.random.choice(["a", "b", "c"])
        part = self.expression(kind, depth, names, about, level)
        was, self.in_let = self.in_let, True
        body = self.expression(wanted, depth, names + ((name, kind),), about, level)
        self.in_let = was
        return ("let", name, part, body)

    def make_if(self, wanted, depth, names, about, level):
        return ("if", self.expression("int", depth, names, about, level),
                self.expression(wanted, depth, names, about, level),
                self.expression(wanted, depth, names, about, level))

    def make_changing(self, wanted, depth, names, about, level):
        if level >= self.levels:
            return self.leaf(wanted, names, about)
        kind = self.random.choice(KINDS)
        rule = self.rule(kind, depth, level)
        if self.random.random() < 0.5:
            return ("sum", ("keep", kind, rule), self.expression(wanted, depth, names, about, level))
        return ("rule", kind, rule, self.expression(wanted, depth, names, about, level))

    def make_call(self, wanted, depth, names, about, level):
        if wanted == "fn":
            return ("call", ("fn", "m", ("fn", "k", self.expression("int", depth - 1, names + (("k", "int"),), about,
                                                                    level))), ("num", 1))
        return ("call", self.expression("fn", depth, names, about, level),
                self.expression("int", depth, names, about, level))

    def make_fn(self, wanted, depth, names, about, level):
        name = self.random.choice(["a", "b", "c"])
        return ("fn", name, self.expression("int", depth, names + ((name, "int"),), about, level))

    def make_loop(self, wanted, depth, names, about, level):
        """A function that calls itself: for ever, or a few times."""
        body = self.expression("int", depth, names + (("n", "int"),), about, level)
        again = ("call", ("call", ("name", "w"), ("name", "w")), ("sum", ("name", "n"), ("num", -1)))
        if self.random.random() < 0.7:
            again = ("if", ("name", "n"), ("sum", body, again), ("num", 0))
        else:
            again = ("sum", body, again)
        if not self.nested_lets:
            return ("call", ("fn", "n", body), ("num", 2))
        return ("let", "w", ("fn", "w", ("fn", "n", again)),
                ("call", ("call", ("name", "w"), ("name", "w")), ("num", self.random.choice([1, 2, 3]))))

    def make_sum(self, wanted, depth, names, about, level):
        return ("sum", self.expression("int", depth, names, about, level),
                self.expression("int", depth, names, about, level))

    def make_less(self, wanted, depth, names, about, level):
        return ("less",) + self.make_sum(wanted, depth, names, about, level)[1:]

    def make_say(self, wanted, depth, names, about, level):
        return ("say", self.expression("int", depth, names, about, level))
