"""Collapsing a tower and its program into one plain program.

The collapse is first written as a row of heads, each followed by what stands in
it, and then put together. Both keep lists of what is still to do, because a
collapse may be deeper than Python lets functions call.
"""

from ziggurat.errors import LimitError
from ziggurat.numbering import Rules
from ziggurat.places import Place, Site
from ziggurat.shapes import ASKS, PART_COUNTS

MAX_NODES = 20000


class Writer:
    """Writes the collapse of a program as a row of items in the order of its text.

    An item is ("head", head, count), a head that is followed by the items of so
    many expressions in it, or ("visit", expression, place), which stands for
    the items of a collapse that is still to be written. The names of a place
    lead to the names that are chosen for them. Known of a site is under which
    names its parts, and it in the built-in way, are delayed.
    """

    def __init__(self, rules):
        self.rules = rules
        self.chosen = 0

    def heads(self):
        """Return the pairs (head, count) of the whole collapse."""
        found = []
        todo = [("visit", self.rules.top, Place({}, None))]
        while todo:
            word, thing, more = todo.pop()
            if word == "visit":
                todo.extend(self.write(thing, more)[::-1])
            elif len(found) == MAX_NODES:
                raise LimitError("the collapse is too large")
            else:
                found.append((thing, more))
        return found

    def choose(self, word):
        """Return a name that stands nowhere else in the collapse."""
        self.chosen += 1
        return f"{word}-{self.chosen}"

    def write(self, expression, place):
        """Return the items of a collapse of an expression."""
        if expression.word in ASKS:
            return self.write_ask(expression, place)
        if self.rules.has_switch(expression):
            return self.write_switch(expression, place)
        return self.write_built_in(expression, place, {})

    def write_switch(self, expression, place):
        """Return the items of a switch, within delays of what is due at several places in it."""
        asked = self.rules.asked[expression.switch]
        site = Site(expression, place, {})
        items = self.write_delayed_parts(site, asked)
        last = self.write_built_in(expression, place, site.known)
        if "usual" in asked:
            name = self.choose("usual")
            site.known["usual"] = name
            items.extend([_head(("delay", name), 2), *last])
            last = [_head(("force", name), 0)]
        rows = self.rules.rows[expression.switch]
        items.append(_head(("switch", expression.switch, [number for number, _ in rows]), len(rows) + 1))
        items.extend([("visit", rule, Place({}, site)) for _, rule in rows])
        return items + last

    def write_delayed_parts(self, site, asked):
        """Return the items of delays of the parts for which some rule asks; the others are due only once."""
        items = []
        for i in range(PART_COUNTS[site.below.word]):
            if i in asked:
                name = self.choose("part")
                site.known[i] = name
                items.extend([_head(("delay", name), 2), ("visit", site.part(i), site.place)])
        return items

    def write_built_in(self, expression, place, delayed):
        """Return the items of a collapse in the built-in way; some of the parts may be delayed."""
        word, node, inner = expression.word, expression.node, expression.inner
        if word == "num":
            return [_head(node, 0)]
        if word == "name":
            return [_head(("name", place.names[node[1]]), 0)]
        if word == "rule":
            return [_head(("set", expression.switch, expression.rule), 1), ("visit", inner[1], place)]
        if word == "keep":
            return [_head(("put", expression.switch, expression.rule), 0)]
        if word == "fn":
            chosen = self.choose(node[1])
            return [_head(("fn", expression.level, chosen), 1), ("visit", inner[0], place.bind(node[1], chosen))]
        parts = self.write_parts(expression, place, delayed)
        if word == "let":
            chosen = self.choose(node[1])
            return [_head(("let", chosen), 2), *parts, ("visit", inner[1], place.bind(node[1], chosen))]
        return [_head((word, expression.level), len(parts)), *parts]

    def write_parts(self, expression, place, delayed):
        """Return the items of the parts of an expression: forces of the delayed ones, collapses of the others."""
        items = []
        for i in range(PART_COUNTS[expression.word]):
            if i in delayed:
                items.append(_head(("force", delayed[i]), 0))
            else:
                items.append(("visit", expression.inner[i], place))
        return items

    def write_ask(self, expression, place):
        """Return the items of a collapse of an ask."""
        if expression.word == "with":
            return self.write_with(expression, place)
        if expression.word == "do":
            return self.write_do(expression, place)
        name = place.site.known["usual" if expression.word == "usual" else expression.node[1]]
        return [_head(("tick",), 1), _head(("force", name), 0)]

    def write_with(self, expression, place):
        """Return the items of a let of the name of the let below, around a collapse of that let's body."""
        site = place.site
        chosen = self.choose(site.below.node[1])
        body = ("visit", site.body_of_let(), site.place_of_body(chosen))
        return [_head(("let", chosen), 2), ("visit", expression.inner[0], place), _head(("tick",), 1), body]

    def write_do(self, expression, place):
        """Return the items of a let for each part, around the operation of the expression below."""
        below = place.site.below
        items = []
        names = []
        for part in expression.inner:
            chosen = self.choose("do")
            items.extend([_head(("let", chosen), 2), ("visit", part, place)])
            names.append(_head(("name", chosen), 0))
        operation = _head((below.word, below.level), len(names))
        return [*items, _head(("tick",), 1), operation, *names]


def collapse(program):
    """Return a plain program that does exactly what a program does; raise LimitError if it would be too large."""
    made = []
    heads = Writer(Rules(program)).heads()
    for head, count in reversed(heads):
        inner = [made.pop() for _ in range(count)]
        made.append(_expression(head, inner))
    return made.pop()


def _head(head, count):
    """Return the item of a head that is followed by so many expressions."""
    return ("head", head, count)


def _expression(head, inner):
    """Return the expression of a head and the expressions in it."""
    if head[0] == "switch":
        word, switch, numbers = head
        return (word, switch, tuple(zip(numbers, inner[:-1])), inner[-1])
    return (*head, *inner)
