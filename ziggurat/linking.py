"""What the names in a plain program lead to."""

from ziggurat.plainshapes import PLAIN_SHAPES, inner_plain


class Node:
    """An expression of a plain program, with its number in the order of the text.

    inner has the expressions that stand directly in it, in their order. target
    is what a name or force leads to: the fn, let or delay with the same name;
    None if there is none, and for all other expressions.
    """

    def __init__(self, plain, number):
        self.plain = plain
        self.word = plain[0]
        self.number = number
        self.inner = []
        self.target = None

    def name(self):
        """Return the name that stands in an expression."""
        return self.plain[1 + PLAIN_SHAPES[self.word].index("name")]

    def leads(self):
        """Tell whether this leads to another expression."""
        return self.word in ("name", "force")

    def binds(self):
        """Tell whether others may lead to this."""
        return self.word in ("fn", "let", "delay")


class Linker:
    """Makes the nodes of a plain program.

    names and delays have a list for each name: the expressions around that bind
    or delay it, the innermost one last. todo holds triples (word, thing, node),
    the next one last: ("visit", plain, node) is an expression in a node.
    """

    def __init__(self):
        self.count = 0
        self.names = {}
        self.delays = {}
        self.todo = []

    def link(self, plain):
        """Return the node of a plain program."""
        top = self.make(plain)
        while self.todo:
            word, thing, node = self.todo.pop()
            if word == "visit":
                node.inner.append(self.make(thing))
            elif word == "bind":
                self.row_of(node).append(node)
            else:
                self.row_of(node).pop()
        return top

    def make(self, plain):
        """Return the node of an expression, and have the expressions in it visited next."""
        node = Node(plain, self.count)
        self.count += 1
        if node.leads():
            around = self.row_of(node)
            node.target = around[-1] if around else None
        steps = [("visit", inner, node) for inner in inner_plain(plain)]
        if node.binds():
            # The body is the last expression in it.
            steps = [*steps[:-1], ("bind", None, node), steps[-1], ("unbind", None, node)]
        self.todo.extend(steps[::-1])
        return node

    def row_of(self, node):
        """Return the expressions around that bind, or delay, the name that stands in a node."""
        table = self.delays if node.word in ("delay", "force") else self.names
        return table.setdefault(node.name(), [])


def link(plain):
    """Return the node of a plain program, in which each name and force leads to what it is about."""
    return Linker().link(plain)
