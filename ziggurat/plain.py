"""Running plain programs, and how large they are.

What is set in a run is the number of each switch. Everything here keeps lists
of what is still to do, because a plain program may be deeper than Python lets
functions call.
"""

from ziggurat.plainshapes import inner_plain
from ziggurat.runs import Function, Walk, look_up


class Scope:
    """What an expression has around it: the names that are bound, and the names of what is delayed."""

    def __init__(self, names, delays):
        self.names = names
        self.delays = delays

    def bind(self, name, value):
        """Return a scope that has one more name."""
        return Scope((name, value, self.names), self.delays)

    def delay(self, name, expression):
        """Return a scope that has one more delayed expression, which is to be evaluated in this scope."""
        return Scope(self.names, (name, (expression, self), self.delays))


def run_plain(plain, fuel):
    """Return the run of a plain program: the pair of its outputs and its end."""
    going = Walk(fuel)
    going.visit(plain, Scope(None, None))
    while going.is_going():
        word, thing, scope = going.todo.pop()
        action = ACTIONS[word]
        action(going, thing, scope)
    return going.result()


def plain_size(plain):
    """Return the number of nodes of a plain program."""
    nodes = 0
    todo = [plain]
    while todo:
        nodes += 1
        todo.extend(inner_plain(todo.pop()))
    return nodes


def _visit(going, node, scope):
    action = FORMS[node[0]]
    action(going, node, scope)


def _num(going, node, _):
    going.stack.append(node[1])


def _name(going, node, scope):
    going.stack.append(look_up(scope.names, node[1]))


def _fn(going, node, scope):
    going.stack.append(Function(node[1], (node[2], node[3]), scope))


def _operation(going, node, scope):
    going.todo.append(("operate", node, scope))
    going.visit_all(node[2:], scope)


def _operate(going, node, _):
    going.operate(node[0], node[1])


def _if(going, node, scope):
    going.todo.append(("choose", node, scope))
    going.visit(node[2], scope)


def _choose(going, node, scope):
    going.choose(node[1], node[3:], scope)


def _let(going, node, scope):
    going.todo.append(("bind", node, scope))
    going.visit(node[2], scope)


def _bind(going, node, scope):
    """Go on with a let when its part has been evaluated."""
    going.visit(node[3], scope.bind(node[1], going.stack.pop()))


def _delay(going, node, scope):
    going.visit(node[3], scope.delay(node[1], node[2]))


def _force(going, node, scope):
    expression, scope_there = look_up(scope.delays, node[1])
    going.visit(expression, scope_there)


def _tick(going, node, scope):
    if going.step():
        going.visit(node[1], scope)


def _switch(going, node, scope):
    number = going.settings.get(node[1], 0)
    fitting = [branch for wanted, branch in node[2] if wanted == number]
    going.visit(fitting[0] if fitting else node[3], scope)


def _set(going, node, scope):
    going.set_for(node[1], node[2], node[3], scope)


def _put(going, node, _):
    going.set_on(node[1], node[2])


def _restore(going, change, _):
    going.restore(change)


FORMS = {
    "num": _num,
    "name": _name,
    "fn": _fn,
    "call": _operation,
    "sum": _operation,
    "less": _operation,
    "if": _if,
    "let": _let,
    "say": _operation,
    "delay": _delay,
    "force": _force,
    "tick": _tick,
    "switch": _switch,
    "set": _set,
    "put": _put,
}

ACTIONS = {
    "visit": _visit,
    "operate": _operate,
    "choose": _choose,
    "bind": _bind,
    "restore": _restore,
}
