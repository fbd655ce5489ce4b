"""Collapsing a tower and its program into one plain program.

The collapse is first written as a row of heads, each followed by what stands in
it, and then put together. Both keep lists of what is still to do, because a
collapse may be deeper than Python lets functions call.
"""

from ziggurat.errors import LimitError
from ziggurat.numbering import Rules, switch_number
from ziggurat.shapes import ASKS, KINDS, PART_COUNTS, part_of

MAX_NODES = 20000


class Place:
    """Where an expression stands: its level, the names in the collapse of the names that it has, and its site.

    The site is what the rule around it is about, None outside of rules.
    """

    def __init__(self, level, names, site):
        self.level = level
        self.names = names
        self.site = site

    def bind(self, name, chosen):
        """Return a place of the same level that has one more name."""
        return Place(self.level, {**self.names, name: chosen}, self.site)


class Site:
    """An expression that rules are about, with its place.

    delayed has the names under which the collapses of its parts are delayed, by
    the numbers of the parts, and of it in the built-in way, by "usual".
    """

    def __init__(self, node, place, delayed):
        self.node = node
        self.place = place
        self.delayed = delayed


class Writer:
    """Writes the collapse of a program as a row of items in the order of its text.

    An item is ("head", head, count), a head that is followed by the items of so
    many expressions in it, or ("visit", node, place), which stands for the
    items of a collapse that is still to be written.
    """

    def __init__(self, rules):
        self.rules = rules
        self.chosen = 0

    def heads(self):
        """Return the pairs (head, count) of the whole collapse."""
        found = []
        todo = [("visit", self.rules.numbered, Place(0, {}, None))]
        while todo:
            word, thing, more = todo.pop()
            if word == "visit":
                todo.extend(self.write(thing, more)[::-1])
            elif len(found) == MAX_NODES:
                raise LimitError("the collapse is too large")
            else:
                found.append((thing, more))
        return found

    def choose(self, word):
        """Return a name that stands nowhere else in the collapse."""
        self.chosen += 1
        return f"{word}-{self.chosen}"

    def write(self, node, place):
        """Return the items of a collapse of an expression."""
        if node[0] in ASKS:
            return self.write_ask(node, place)
        if node[0] in KINDS and switch_number(place.level, node[0]) in self.rules.rows:
            return self.write_switch(node, place)
        return self.write_built_in(node, place, {})

    def write_switch(self, node, place):
        """Return the items of a switch, within delays of what is due at several places in it."""
        switch = switch_number(place.level, node[0])
        site = Site(node, place, {})
        items = self.write_delayed_parts(site, self.rules.asked[switch])
        last = self.write_built_in(node, place, site.delayed)
        if "usual" in self.rules.asked[switch]:
            name = self.choose("usual")
            site.delayed["usual"] = name
            items.extend([_head(("delay", name), 2), *last])
            last = [_head(("force", name), 0)]
        rows = self.rules.rows[switch]
        items.append(_head(("switch", switch, [number for number, _ in rows]), len(rows) + 1))
        items.extend([("visit", rule, Place(place.level + 1, {}, site)) for _, rule in rows])
        return items + last

    def write_delayed_parts(self, site, asked):
        """Return the items of delays of the parts for which some rule asks; the others are due only once."""
        items = []
        for i in range(PART_COUNTS[site.node[0]]):
            if i in asked:
                name = self.choose("part")
                site.delayed[i] = name
                items.extend([_head(("delay", name), 2), ("visit", part_of(site.node, i), site.place)])
        return items

    def write_built_in(self, node, place, delayed):
        """Return the items of a collapse in the built-in way; some of the parts may be delayed."""
        word = node[0]
        if word in ("num", "put"):
            return [_head(node, 0)]
        if word == "name":
            return [_head(("name", place.names[node[1]]), 0)]
        if word == "set":
            return [_head(node[:3], 1), ("visit", node[3], place)]
        if word == "fn":
            chosen = self.choose(node[1])
            return [_head(("fn", place.level, chosen), 1), ("visit", node[2], place.bind(node[1], chosen))]
        parts = self.write_parts(node, place, delayed)
        if word == "let":
            chosen = self.choose(node[1])
            return [_head(("let", chosen), 2), *parts, ("visit", node[3], place.bind(node[1], chosen))]
        return [_head((word, place.level), len(parts)), *parts]

    def write_parts(self, node, place, delayed):
        """Return the items of the parts of an expression: forces of the delayed ones, collapses of the others."""
        items = []
        for i in range(PART_COUNTS[node[0]]):
            if i in delayed:
                items.append(_head(("force", delayed[i]), 0))
            else:
                items.append(("visit", part_of(node, i), place))
        return items

    def write_ask(self, node, place):
        """Return the items of a collapse of an ask."""
        if node[0] == "with":
            return self.write_with(node, place)
        if node[0] == "do":
            return self.write_do(node, place)
        name = place.site.delayed[node[1] if node[0] == "part" else "usual"]
        return [_head(("tick",), 1), _head(("force", name), 0)]

    def write_with(self, node, place):
        """Return the items of a let of the name of the let below, around a collapse of that let's body."""
        about = place.site
        name = about.node[1]
        chosen = self.choose(name)
        body = ("visit", about.node[3], about.place.bind(name, chosen))
        return [_head(("let", chosen), 2), ("visit", node[1], place), _head(("tick",), 1), body]

    def write_do(self, node, place):
        """Return the items of a let for each part, around the operation of the expression below."""
        about = place.site
        items = []
        names = []
        for part in node[1]:
            chosen = self.choose("do")
            items.extend([_head(("let", chosen), 2), ("visit", part, place)])
            names.append(_head(("name", chosen), 0))
        operation = _head((about.node[0], about.place.level), len(names))
        return [*items, _head(("tick",), 1), operation, *names]


def collapse(program):
    """Return a plain program that does exactly what a program does; raise LimitError if it would be too large."""
    made = []
    heads = Writer(Rules(program)).heads()
    for head, count in reversed(heads):
        inner = [made.pop() for _ in range(count)]
        made.append(_expression(head, inner))
    return made.pop()


def _head(head, count):
    """Return the item of a head that is followed by so many expressions."""
    return ("head", head, count)


def _expression(head, inner):
    """Return the expression of a head and the expressions in it."""
    if head[0] == "switch":
        word, switch, numbers = head
        return (word, switch, tuple(zip(numbers, inner[:-1])), inner[-1])
    return (*head, *inner)
