"""What must be known of a program for its collapse: levels, the numbers of switches and rules, names and asks.

Everything here keeps lists of what is still to do, for the judge is handed
tuples of any depth.
"""

from ziggurat.shapes import KINDS, SHAPES, inner_expressions


def switch_number(level, kind):
    """Return the number of the switch of a level and a kind."""
    return 9 * level + KINDS.index(kind)


class Expression:
    """An expression of a program.

    inner has the expressions that stand directly in it, in their order, so that
    the part of a number is found under this number. switch is the switch of its
    level and kind; for a rule or keep it is the one of the kind that is
    changed, and rule is the number of its rule. free has the names in it that
    are bound around it, and asks what it asks of the expression that the rule
    around it is about: numbers of parts, "usual", "with" and "do"; both are dicts
    of True. number is the same for equal expressions of one level.
    """

    def __init__(self, node, level):
        self.node = node
        self.word = node[0]
        self.level = level
        self.inner = []
        self.switch = -1
        if self.word in KINDS:
            self.switch = switch_number(level, self.word)
        elif self.changes_a_rule():
            self.switch = switch_number(level, node[1])
        self.rule = 0
        self.free = {}
        self.asks = {}
        self.number = 0

    def changes_a_rule(self):
        """Tell whether this is a rule or a keep expression, which has its rule as the first one in it."""
        return self.word in ("rule", "keep")

    def gather(self):
        """Find the free names and the asks, if those of the expressions in this one have been found."""
        if self.word == "name":
            self.free[self.node[1]] = True
        elif self.word == "part":
            self.asks[self.node[1]] = True
        elif self.word in ("usual", "with", "do"):
            self.asks[self.word] = True
        for inner in self.inner[1:] if self.changes_a_rule() else self.inner:
            self.asks.update(inner.asks)
            self.free.update(inner.free)
        if self.word == "fn" or self.word == "let":
            self.unbind()

    def unbind(self):
        """Take away the name of a fn or let, which is free only if it is free in the part of the let."""
        name = self.node[1]
        if name in self.free and (self.word == "fn" or name not in self.inner[0].free):
            del self.free[name]

    def description(self):
        """Return a tuple that is the same for equal expressions, if the expressions in this one have their numbers."""
        things = [self.level, self.rule, self.word]
        for place, thing in zip(SHAPES[self.word], self.node[1:]):
            if place in ("number", "name", "kind"):
                things.append(thing)
        return tuple(things + [inner.number for inner in self.inner])


class Rules:
    """A program and its rules, numbered in the order in which their rule and keep expressions begin in its text.

    top is the program. The rules are in rows, a dict of lists of pairs (number,
    rule) by the switch, ascending. asked is a dict of dicts of True by the
    switch; in these is what some rule of the switch asks for.
    """

    def __init__(self, program):
        self.rows = {}
        self.asked = {}
        found = _expressions(program)
        self.top = found[0]
        self.number_rules(found)
        self.number_expressions(found)
        for switch, row in self.rows.items():
            self.asked[switch] = {ask: True for _, rule in row for ask in rule.asks}

    def number_rules(self, found):
        """Number the rules of all expressions of a program."""
        many = 0
        for expression in found:
            if expression.changes_a_rule():
                many += 1
                expression.rule = many
                self.rows.setdefault(expression.switch, []).append((many, expression.inner[0]))

    def number_expressions(self, found):
        """Number all expressions of a program, the inner ones first."""
        numbers = {}
        for expression in reversed(found):
            expression.gather()
            expression.number = numbers.setdefault(expression.description(), len(numbers))

    def has_switch(self, expression):
        """Tell whether the collapse of an expression is a switch."""
        return expression.word in KINDS and expression.switch in self.rows


def _expressions(program):
    """Return all expressions of a program in the order in which they begin in its text."""
    found = []
    todo = [(program, 0, None)]
    while todo:
        node, level, around = todo.pop()
        expression = Expression(node, level)
        found.append(expression)
        if around is not None:
            around.inner.append(expression)
        for place, inner in reversed(inner_expressions(node)):
            todo.append((inner, level + 1 if place == "rule" else level, expression))
    return found
