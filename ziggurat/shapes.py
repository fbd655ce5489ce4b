"""The words of expressions, and what stands in an expression behind each of them."""

KINDS = ("num", "name", "fn", "call", "sum", "less", "if", "let", "say")

# What stands behind the word of an expression, place by place:
# number, name and kind are no expressions; expr is an expression, body one in
# which the name of this expression is bound, rule one of the next level, and
# parts a tuple of expressions.
SHAPES = {
    "num": ("number",),
    "name": ("name",),
    "fn": ("name", "body"),
    "call": ("expr", "expr"),
    "sum": ("expr", "expr"),
    "less": ("expr", "expr"),
    "if": ("expr", "expr", "expr"),
    "let": ("name", "expr", "body"),
    "say": ("expr",),
    "rule": ("kind", "rule", "expr"),
    "keep": ("kind", "rule"),
    "part": ("number",),
    "with": ("expr",),
    "usual": (),
    "do": ("parts",),
}

EXPRESSION_PLACES = ("expr", "body", "rule")

ASKS = ("part", "with", "usual", "do")

PART_COUNTS = {"num": 0, "name": 0, "fn": 0, "call": 2, "sum": 2, "less": 2, "if": 3, "let": 1, "say": 1}

DO_COUNTS = {"call": 2, "sum": 2, "less": 2, "say": 1}

MAX_NAME = 8
MAX_NUMBER = 1000000


def is_name(text):
    """Tell whether a string is a name, of any length."""
    return text.isascii() and text.isalnum() and text[0].isalpha() and text not in SHAPES


def is_integer(thing):
    """Tell whether something is an integer; True and False are none."""
    return isinstance(thing, int) and not isinstance(thing, bool)


def inner_expressions(node):
    """Return the pairs (place, expression) of the expressions that stand directly in one, in their order."""
    found = []
    for place, thing in zip(SHAPES[node[0]], node[1:]):
        if place in EXPRESSION_PLACES:
            found.append((place, thing))
        elif place == "parts":
            found.extend([("expr", part) for part in thing])
    return found


def part_of(node, number):
    """Return the part of a number of an expression of a changeable kind."""
    return node[2] if node[0] == "let" else node[1 + number]
