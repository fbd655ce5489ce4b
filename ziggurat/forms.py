"""Which nested tuples are programs, and how large programs are.

Everything here keeps lists of what is still to do instead of calling itself,
because a nested tuple may be deeper than Python lets functions call.
"""

from ziggurat.shapes import ASKS, DO_COUNTS, KINDS, MAX_NAME, MAX_NUMBER, PART_COUNTS, SHAPES
from ziggurat.shapes import inner_expressions, is_integer, is_name


def is_well_formed(program):
    """Tell whether any nested tuple is a well-formed program."""
    return has_form(program, True)


def has_form(program, bounded):
    """Tell whether something is a well-formed program; unless bounded, with names and numbers of any size."""
    return _is_shaped(program, bounded) and _has_bound_names(program)


def size(program):
    """Return the pair of the number of nodes and the depth of a program."""
    nodes = 0
    deepest = 0
    todo = [(program, 1)]
    while todo:
        node, depth = todo.pop()
        nodes += 1
        deepest = max(deepest, depth)
        todo.extend([(inner, depth + 1) for _, inner in inner_expressions(node)])
    return nodes, deepest


def height(program):
    """Return the highest level of an expression in a program."""
    highest = 0
    todo = [(program, 0)]
    while todo:
        node, level = todo.pop()
        highest = max(highest, level)
        for place, inner in inner_expressions(node):
            todo.append((inner, level + 1 if place == "rule" else level))
    return highest


def _is_shaped(program, bounded):
    """Tell whether something consists of expressions, with asks where they may stand; names may be unbound."""
    todo = [(program, "")]
    while todo:
        node, about = todo.pop()
        if not _is_expression(node, about, bounded):
            return False
        for place, inner in inner_expressions(node):
            todo.append((inner, node[1] if place == "rule" else about))
    return True


def _is_expression(node, about, bounded):
    """Tell whether something is an expression, apart from the expressions in it.

    about is the kind that the rule around it is for, or "" outside of rules.
    """
    if not isinstance(node, tuple) or not node or not isinstance(node[0], str):
        return False
    if node[0] not in SHAPES or len(node) != len(SHAPES[node[0]]) + 1:
        return False
    if node[0] in ASKS:
        return about != "" and _is_ask_about(node, about)
    return all([_may_stand(place, thing, bounded) for place, thing in zip(SHAPES[node[0]], node[1:])])


def _is_ask_about(node, kind):
    """Tell whether an ask of the right length may stand in a rule for a kind."""
    if node[0] == "part":
        return is_integer(node[1]) and 0 <= node[1] < PART_COUNTS[kind]
    if node[0] == "with":
        return kind == "let"
    if node[0] == "do":
        return isinstance(node[1], tuple) and kind in DO_COUNTS and len(node[1]) == DO_COUNTS[kind]
    return True


def _may_stand(place, thing, bounded):
    """Tell whether something may stand in a place; expressions are looked at later."""
    if place == "number":
        return is_integer(thing) and (not bounded or -MAX_NUMBER <= thing <= MAX_NUMBER)
    if place == "name":
        return isinstance(thing, str) and is_name(thing) and (not bounded or len(thing) <= MAX_NAME)
    if place == "kind":
        return isinstance(thing, str) and thing in KINDS
    return True


def _has_bound_names(program):
    """Tell whether each name in a tree of expressions is bound."""
    todo = [("visit", program, {})]
    while todo:
        step, thing, scope = todo.pop()
        if step == "bind":
            scope[thing] = scope.get(thing, 0) + 1
        elif step == "unbind":
            scope[thing] -= 1
        elif thing[0] == "name":
            if scope.get(thing[1], 0) == 0:
                return False
        else:
            todo.extend(_scope_steps(thing, scope)[::-1])
    return True


def _scope_steps(node, scope):
    """Return the steps that visit the expressions in one, in their order.

    A scope tells how many times each name is bound around; one dict serves all
    expressions of a rule (or of the program), for copies would take too long
    where lets are nested deeply.
    """
    steps = []
    for place, inner in inner_expressions(node):
        if place == "rule":
            steps.append(("visit", inner, {}))
        elif place == "body":
            steps.extend([("bind", node[1], scope), ("visit", inner, scope), ("unbind", node[1], scope)])
        else:
            steps.append(("visit", inner, scope))
    return steps
