"""Running a program as a tower of interpreters.

What is set in a run is the rule in force for each pair of a level and a kind, 0
for the built-in one.
"""

from ziggurat.runs import Function, Walk, look_up
from ziggurat.shapes import part_of


class Place:
    """Where an expression is evaluated: its level, the names that it has, and what the rule around it is about.

    about is None outside of rules, otherwise the pair of the expression of the
    level below and its place.
    """

    def __init__(self, level, names, about):
        self.level = level
        self.names = names
        self.about = about

    def bind(self, name, value):
        """Return a place of the same level that has one more name."""
        return Place(self.level, (name, value, self.names), self.about)


def run(program, fuel):
    """Return the run of a program: the pair of its outputs and its end."""
    going = Walk(fuel)
    going.visit(program, Place(0, None, None))
    while going.is_going():
        word, thing, place = going.todo.pop()
        action = ACTIONS[word]
        action(going, thing, place)
    return going.result()


def _visit(going, node, place):
    """Evaluate an expression by the rule in force for it."""
    rule = going.settings.get((place.level, node[0]), 0)
    if rule == 0:
        _visit_built_in(going, node, place)
    else:
        going.visit(rule, Place(place.level + 1, None, (node, place)))


def _visit_built_in(going, node, place):
    """Evaluate an expression in the built-in way, its parts and bodies by the rules in force."""
    action = BUILT_IN[node[0]]
    action(going, node, place)


def _num(going, node, _):
    going.stack.append(node[1])


def _name(going, node, place):
    going.stack.append(look_up(place.names, node[1]))


def _fn(going, node, place):
    going.stack.append(Function(place.level, (node[1], node[2]), place))


def _operation(going, node, place):
    going.todo.append(("operate", node[0], place))
    going.visit_all(node[1:], place)


def _operate(going, word, place):
    going.operate(word, place.level)


def _if(going, node, place):
    going.todo.append(("choose", node[2:], place))
    going.visit(node[1], place)


def _choose(going, branches, place):
    going.choose(place.level, branches, place)


def _let(going, node, place):
    going.todo.append(("bind", node, place))
    going.visit(node[2], place)


def _bind(going, node, place):
    """Go on with a let when its part has been evaluated."""
    going.visit(node[3], place.bind(node[1], going.stack.pop()))


def _rule(going, node, place):
    going.set_for((place.level, node[1]), node[2], node[3], place)


def _keep(going, node, place):
    going.set_on((place.level, node[1]), node[2])


def _restore(going, change, _):
    going.restore(change)


def _part(going, node, place):
    below, place_below = place.about
    if going.step():
        going.visit(part_of(below, node[1]), place_below)


def _usual(going, _, place):
    below, place_below = place.about
    if going.step():
        _visit_built_in(going, below, place_below)


def _with(going, node, place):
    going.todo.append(("bind below", None, place))
    going.visit(node[1], place)


def _bind_below(going, _, place):
    """Go on with a with when its part has been evaluated."""
    below, place_below = place.about
    if going.step():
        _bind(going, below, place_below)


def _do(going, node, place):
    going.todo.append(("operate below", None, place))
    going.visit_all(node[1], place)


def _operate_below(going, _, place):
    """Go on with a do when its parts have been evaluated."""
    below, place_below = place.about
    if going.step():
        going.operate(below[0], place_below.level)


BUILT_IN = {
    "num": _num,
    "name": _name,
    "fn": _fn,
    "call": _operation,
    "sum": _operation,
    "less": _operation,
    "if": _if,
    "let": _let,
    "say": _operation,
    "rule": _rule,
    "keep": _keep,
    "part": _part,
    "with": _with,
    "usual": _usual,
    "do": _do,
}

ACTIONS = {
    "visit": _visit,
    "operate": _operate,
    "choose": _choose,
    "bind": _bind,
    "restore": _restore,
    "bind below": _bind_below,
    "operate below": _operate_below,
}
