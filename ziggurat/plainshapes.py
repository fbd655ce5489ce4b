"""The words of plain expressions, what stands behind each of them, and which nested tuples are plain in form."""

from ziggurat.shapes import is_integer

# What stands behind the word of a plain expression, place by place: number is
# an integer, natural one from 0 (a level, a switch or its number), expr an
# expression, body one in which the name of this expression is bound or delayed,
# and branches a tuple of pairs of a number from 1 and an expression.
PLAIN_SHAPES = {
    "num": ("number",),
    "name": ("name",),
    "fn": ("natural", "name", "body"),
    "call": ("natural", "expr", "expr"),
    "sum": ("natural", "expr", "expr"),
    "less": ("natural", "expr", "expr"),
    "if": ("natural", "expr", "expr", "expr"),
    "let": ("name", "expr", "body"),
    "say": ("natural", "expr"),
    "delay": ("name", "expr", "body"),
    "force": ("name",),
    "tick": ("expr",),
    "switch": ("natural", "branches", "expr"),
    "set": ("natural", "natural", "expr"),
    "put": ("natural", "natural"),
}


def inner_plain(node):
    """Return the expressions that stand directly in a plain expression, in their order."""
    found = []
    for place, thing in zip(PLAIN_SHAPES[node[0]], node[1:]):
        if place in ("expr", "body"):
            found.append(thing)
        elif place == "branches":
            found.extend([branch for _, branch in thing])
    return found


def is_plain(thing):
    """Tell whether anything is a plain program in form; names may be unbound."""
    todo = [thing]
    while todo:
        node = todo.pop()
        if not _is_plain_expression(node):
            return False
        todo.extend(inner_plain(node))
    return True


def _is_plain_expression(node):
    """Tell whether something is a plain expression in form, apart from the expressions in it."""
    if not isinstance(node, tuple) or not node or not isinstance(node[0], str):
        return False
    if node[0] not in PLAIN_SHAPES or len(node) != len(PLAIN_SHAPES[node[0]]) + 1:
        return False
    return all([_may_stand(place, thing) for place, thing in zip(PLAIN_SHAPES[node[0]], node[1:])])


def _may_stand(place, thing):
    """Tell whether something may stand in a place; expressions are looked at later."""
    if place == "number":
        return is_integer(thing)
    if place == "natural":
        return is_integer(thing) and thing >= 0
    if place == "name":
        return isinstance(thing, str)
    if place == "branches":
        return _are_branches(thing)
    return True


def _are_branches(thing):
    """Tell whether something is a tuple of pairs of a number from 1 and something, with different numbers."""
    if not isinstance(thing, tuple):
        return False
    numbers = {}
    for pair in thing:
        if not isinstance(pair, tuple) or len(pair) != 2:
            return False
        if not is_integer(pair[0]) or pair[0] < 1 or pair[0] in numbers:
            return False
        numbers[pair[0]] = True
    return True
