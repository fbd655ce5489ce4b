"""Judging whether a plain program is a collapse of a program.

The judge walks through the plain program, and knows of each expression in it of
what it must be a collapse. What is delayed is looked at where it is forced, but
once only for all the forces at which the same is due.
"""

from ziggurat.forms import is_well_formed
from ziggurat.linking import link
from ziggurat.numbering import Rules
from ziggurat.places import Place, Site
from ziggurat.plainshapes import is_plain


class Judge:
    """Compares a plain program with a program.

    todo holds what is still to be compared: (node, expression, place, built_in)
    demands that the node is a collapse of the expression, in the built-in way
    if built_in is True. The names of a place lead to the numbers of the nodes
    that bind them in the plain program. Known of a site are the numbers of what
    is due for the asks about it.

    dues has a number for each description of something due; seen has the pairs
    (number of a delay, number of what is due) that have been met.
    """

    def __init__(self, rules):
        self.rules = rules
        self.todo = []
        self.dues = {}
        self.seen = {}

    def accepts(self, top):
        """Tell whether a plain program is a collapse of the program."""
        self.demand(top, self.rules.top, Place({}, None))
        while self.todo:
            node, expression, place, built_in = self.todo.pop()
            if node.word == "force":
                fits = self.fits_force(node, expression, place, built_in)
            elif self.rules.has_switch(expression) and not built_in:
                fits = self.fits_switch(node, expression, place)
            else:
                fit = FORMS[expression.word]
                fits = fit(self, node, expression, place)
            if not fits:
                return False
        return True

    def demand(self, node, expression, place):
        """Demand that a node is a collapse of an expression."""
        self.todo.append((node, expression, place, False))

    def demand_built_in(self, node, expression, place):
        """Demand that a node is a collapse of an expression in the built-in way."""
        self.todo.append((node, expression, place, True))

    def demand_all(self, nodes, expressions, place):
        """Demand that nodes are collapses of as many expressions."""
        for node, expression in zip(nodes, expressions):
            self.demand(node, expression, place)

    def fits_force(self, node, expression, place, built_in):
        """Tell whether something is delayed under the name of a force, and demand that it is what is due."""
        if node.target is None:
            return False
        met = (node.target.number, self.due(expression, place, built_in))
        if met not in self.seen:
            self.seen[met] = True
            self.todo.append((node.target.inner[0], expression, place, built_in))
        return True

    def fits_switch(self, node, expression, place):
        """Tell whether a node is a switch, within delays, and demand the right branches."""
        while node.word == "delay":
            node = node.inner[1]
        if node.word != "switch" or node.plain[1] != expression.switch:
            return False
        rows = self.rules.rows[expression.switch]
        if [number for number, _ in node.plain[2]] != [number for number, _ in rows]:
            return False
        site = Site(expression, place, self.dues_of_asks(expression, place))
        self.demand_all(node.inner[:-1], [rule for _, rule in rows], Place({}, site))
        self.demand_built_in(node.inner[-1], expression, place)
        return True

    def due(self, expression, place, built_in):
        """Return a number for what is due, the same for all that has the same collapses with the same names.

        These are settled by the expression, by what its free names lead to, and
        by what is due for its asks.
        """
        names = [place.names[name] for name in expression.free]
        asks = [place.site.known[ask] for ask in expression.asks]
        in_its_way = 1 if built_in and self.rules.has_switch(expression) else 0
        return self.dues.setdefault(tuple([expression.number, in_its_way] + names + asks), len(self.dues))

    def dues_of_asks(self, expression, place):
        """Return the numbers of what is due for the asks of the rules about an expression, by the asks."""
        site = Site(expression, place, {})
        for ask in self.rules.asked[expression.switch]:
            if ask == "usual":
                site.known[ask] = self.due(expression, place, True)
            elif ask == "with":
                # The with itself binds the name, differently in each collapse of it.
                site.known[ask] = self.due(site.body_of_let(), site.place_of_body(-1), False)
            elif ask == "do":
                site.known[ask] = expression.switch
            else:
                site.known[ask] = self.due(site.part(ask), place, False)
        return site.known


def _fits_num(_, node, expression, place):
    return node.word == "num" and node.plain[1] == expression.node[1]


def _fits_name(_, node, expression, place):
    return node.word == "name" and _leads_to(node, place.names[expression.node[1]])


def _leads_to(node, number):
    """Tell whether a name leads to the node of a number."""
    return node.target is not None and node.target.number == number


def _fits_fn(judge, node, expression, place):
    if node.word != "fn" or node.plain[1] != expression.level:
        return False
    judge.demand(node.inner[0], expression.inner[0], place.bind(expression.node[1], node.number))
    return True


def _fits_let(judge, node, expression, place):
    if node.word != "let":
        return False
    judge.demand(node.inner[0], expression.inner[0], place)
    judge.demand(node.inner[1], expression.inner[1], place.bind(expression.node[1], node.number))
    return True


def _fits_word(judge, node, expression, place):
    """Compare a call, sum, less, if or say."""
    if node.word != expression.word or node.plain[1] != expression.level:
        return False
    judge.demand_all(node.inner, expression.inner, place)
    return True


def _fits_rule(judge, node, expression, place):
    if node.word != "set" or node.plain[1:3] != (expression.switch, expression.rule):
        return False
    judge.demand(node.inner[0], expression.inner[1], place)
    return True


def _fits_keep(_, node, expression, place):
    return node.word == "put" and node.plain[1:] == (expression.switch, expression.rule)


def _fits_part(judge, node, expression, place):
    if node.word != "tick":
        return False
    judge.demand(node.inner[0], place.site.part(expression.node[1]), place.site.place)
    return True


def _fits_usual(judge, node, _, place):
    if node.word != "tick":
        return False
    judge.demand_built_in(node.inner[0], place.site.below, place.site.place)
    return True


def _fits_with(judge, node, expression, place):
    """Compare a let of the name of the let below, around a step and then the body of that let."""
    if node.word != "let" or node.inner[1].word != "tick":
        return False
    judge.demand(node.inner[0], expression.inner[0], place)
    judge.demand(node.inner[1].inner[0], place.site.body_of_let(), place.site.place_of_body(node.number))
    return True


def _fits_do(judge, node, expression, place):
    """Compare a let for each part, around a step and then the operation of the expression below."""
    lets = []
    for part in expression.inner:
        if node.word != "let":
            return False
        judge.demand(node.inner[0], part, place)
        lets.append(node.number)
        node = node.inner[1]
    return node.word == "tick" and _is_operation(node.inner[0], place.site.below, lets)


def _is_operation(node, below, lets):
    """Tell whether a node is the operation of the expression below, done with the names of lets."""
    if node.word != below.word or node.plain[1] != below.level:
        return False
    return all([inner.word == "name" and _leads_to(inner, number) for inner, number in zip(node.inner, lets)])


FORMS = {
    "num": _fits_num,
    "name": _fits_name,
    "fn": _fits_fn,
    "call": _fits_word,
    "sum": _fits_word,
    "less": _fits_word,
    "if": _fits_word,
    "let": _fits_let,
    "say": _fits_word,
    "rule": _fits_rule,
    "keep": _fits_keep,
    "part": _fits_part,
    "usual": _fits_usual,
    "with": _fits_with,
    "do": _fits_do,
}


def is_collapse(program, plain):
    """Tell whether a nested tuple is a collapse of a program."""
    if not is_well_formed(program) or not is_plain(plain):
        return False
    return Judge(Rules(program)).accepts(link(plain))
