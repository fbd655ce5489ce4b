"""Makers of many collapses of one program, and of plain programs that are nearly collapses."""

from tests.reference import Expansion, Fixed, children_of


def with_children(node, children):
    """The expression with other expressions in it."""
    if node[0] == "switch":
        made = (node[0], node[1], tuple(zip([number for number, _ in node[2]], children[:-1])), children[-1])
    else:
        left = list(children)
        made = tuple([left.pop(0) if isinstance(thing, tuple) else thing for thing in node])
    return Fixed(made) if isinstance(node, Fixed) else made


def paths_of(node, path=()):
    """The ways from an expression to all expressions in it, itself included."""
    found = [path]
    for at, child in enumerate(children_of(node)):
        found.extend(paths_of(child, path + (at,)))
    return found


def at_path(node, path):
    for at in path:
        node = children_of(node)[at]
    return node


def put_at(node, path, other):
    """The expression with another one at the end of a path."""
    if not path:
        return other
    children = children_of(node)
    children[path[0]] = put_at(children[path[0]], path[1:], other)
    return with_children(node, children)


def free_in(node):
    """The names and delayed names that lead out of an expression; delayed ones are pairs."""
    word = node[0]
    if word == "name":
        return {node[1]}
    if word == "force":
        return {("delayed", node[1])}
    found = [free_in(child) for child in children_of(node)]
    if word in ("fn", "let", "delay"):
        name = node[2] if word == "fn" else node[1]
        found[-1] = found[-1] - {("delayed", name) if word == "delay" else name}
    return set().union(*found)


def shape_of(node, names=None):
    """The expression with its own names replaced by numbers, so that equal ones can be found."""
    names = names or {}
    word = node[0]
    if word in ("name", "force"):
        return (word, names.get((word == "force", node[1]), node[1]))
    children = children_of(node)
    if word in ("fn", "let", "delay"):
        name = node[2] if word == "fn" else node[1]
        shapes = [shape_of(child, names) for child in children[:-1]]
        shapes.append(shape_of(children[-1], {**names, (word == "delay", name): len(names)}))
        return (word, node[1] if word == "fn" else "", *shapes)
    shapes = [shape_of(child, names) for child in children]
    if word == "switch":
        return (word, node[1], tuple([number for number, _ in node[2]]), *shapes)
    return tuple([thing for thing in node if not isinstance(thing, tuple)]) + tuple(shapes)


class Disguise:
    """Makes collapses of a program with all kinds of delays and names."""

    def __init__(self, random):
        self.random = random
        self.count = 0

    def disguise(self, program, times):
        """A collapse of the program, with something delayed a number of times; its names are all different."""
        plain = Expansion(program).plain
        for _ in range(times):
            plain = self.delay_something(plain)
        return plain

    def delay_something(self, plain):
        """The plain program with one more delay somewhere, if one is possible."""
        switches = [path for path in paths_of(plain) if at_path(plain, path)[0] == "switch"]
        if not switches:
            return plain
        path = self.random.choice(switches)
        switch = at_path(plain, path)
        self.count += 1
        name = f"later{self.count}"
        if self.random.random() < 0.1:
            return put_at(plain, path, ("delay", name, self.junk(), switch))
        below = [way for way in paths_of(switch)[1:] if self.may_be_delayed(switch, way)]
        if not below:
            return plain
        delayed = at_path(switch, self.random.choice(below))
        shape = shape_of(delayed)
        chance = self.random.choice([0, 0.5, 1])
        # From the end to the beginning, so that what is replaced moves nothing that is still looked at.
        for way in reversed(below):
            found = at_path(switch, way)
            if found == delayed or shape_of(found) == shape and self.random.random() < chance:
                switch = put_at(switch, way, ("force", name))
        return put_at(plain, path, ("delay", name, delayed, switch))

    def may_be_delayed(self, switch, way):
        """Tell whether a force may stand instead of what stands at the end of a path in a switch."""
        found = at_path(switch, way)
        if isinstance(found, Fixed):
            return False
        around = [at_path(switch, way[:k]) for k in range(len(way))]
        for node, after in zip(around, way):
            # What stands directly in a delay as its body is no collapse of its own.
            if node[0] == "delay" and after == 1 and len(way) == around.index(node) + 1:
                return False
        return free_in(found) <= free_in(switch)

    def junk(self):
        return self.random.choice([
            ("name", "nowhere"), ("force", "nowhere"), ("num", 7), ("sum", 3, ("num", 1), ("force", "nowhere")),
            ("delay", "x", ("num", 1), ("num", 2)), ("switch", 0, (), ("num", 1)),
            ("switch", 100, ((7, ("put", 3, 4)), (2, ("tick", ("num", 1)))), ("fn", 5, "", ("name", "")))])

    def rename(self, plain, pool):
        """The plain program with its own names chosen from a pool, also where that changes what they lead to."""
        def visit(node, names):
            word = node[0]
            if word in ("name", "force"):
                return type(node)((word, names.get((word == "force", node[1]), node[1])))
            children = children_of(node)
            if word in ("fn", "let", "delay"):
                at = 2 if word == "fn" else 1
                chosen = self.random.choice(pool)
                inside = {**names, (word == "delay", node[at]): chosen}
                children = [visit(child, names) for child in children[:-1]] + [visit(children[-1], inside)]
                node = type(node)(node[:at] + (chosen,) + node[at + 1:])
            else:
                children = [visit(child, names) for child in children]
            return with_children(node, children)

        return visit(plain, {})


def plain_tuples(node):
    """The expression without marks of Fixed."""
    if isinstance(node, tuple):
        return tuple([plain_tuples(thing) for thing in node])
    return node


def mutant(random, plain):
    """The plain program with one small change, which leaves it plain in form."""
    path = random.choice(paths_of(plain))
    node = at_path(plain, path)
    changes = [changed_atom, other_expression, other_order, wrapped, unwrapped, other_word, other_branches, forced]
    random.shuffle(changes)
    for change in changes:
        changed = change(random, node, plain)
        if changed is not None:
            return put_at(plain, path, changed)
    return plain


def changed_atom(random, node, _):
    """A number or name of the expression changed."""
    places = [at for at, thing in enumerate(node) if at > 0 and not isinstance(thing, tuple)]
    if not places:
        return None
    at = random.choice(places)
    if isinstance(node[at], str):
        return node[:at] + (random.choice(["a", "b", node[at] + "2"]),) + node[at + 1:]
    change = random.choice([-1, 1])
    return node[:at] + (node[at] + change if node[0] == "num" else abs(node[at] + change),) + node[at + 1:]


def other_expression(random, _, plain):
    """An expression from another place."""
    return at_path(plain, random.choice(paths_of(plain)))


def other_order(random, node, _):
    children = children_of(node)
    if len(children) < 2:
        return None
    random.shuffle(children)
    return with_children(node, children)


def wrapped(random, node, _):
    return random.choice([("tick", node), ("delay", "a", ("num", 1), node), ("delay", "a", node, ("force", "a")),
                          ("let", "a", node, ("name", "a")), ("set", 4, 1, node), ("switch", 4, (), node)])


def unwrapped(random, node, _):
    children = children_of(node)
    return random.choice(children) if children else None


def other_word(random, node, _):
    words = {"sum": "less", "less": "call", "call": "sum", "let": "delay", "delay": "let", "name": "force",
             "force": "name"}
    return (words[node[0]],) + node[1:] if node[0] in words else None


def forced(random, _, plain):
    """A force of something that is delayed somewhere."""
    names = [node[1] for node in [at_path(plain, path) for path in paths_of(plain)] if node[0] == "delay"]
    return ("force", random.choice(names)) if names else None


def other_branches(random, node, _):
    """A branch less, or one more, or the branches in another order."""
    if node[0] != "switch":
        return None
    branches = list(node[2])
    way = random.randrange(3)
    if way == 0 and branches:
        branches.pop(random.randrange(len(branches)))
    elif way == 1:
        branches.append((max([0] + [number for number, _ in branches]) + 1, node[3]))
    else:
        random.shuffle(branches)
    return node[:2] + (tuple(branches), node[3])
