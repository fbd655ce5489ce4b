"""What the runs of towers, of plain programs and of code have in common: values, steps, outputs and ends.

Values are integers and objects of Function. A run keeps its own stacks, so that
programs may nest their calls as deeply as the fuel allows.
"""


class Function:
    """A function: the level that it belongs to, its body, and the scope that it keeps.

    What body and scope are is up to the kind of run.
    """

    def __init__(self, level, body, scope):
        self.level = level
        self.body = body
        self.scope = scope


class Run:
    """A run that is going on.

    stack holds the values that have been found and not used. settings holds
    what can be set and set back: rules in force, or switches. Each kind of run
    has a method apply(function, value).
    """

    def __init__(self, fuel):
        self.fuel = fuel
        self.outputs = []
        self.end = None
        self.stack = []
        self.settings = {}

    def result(self):
        """Return the pair of the outputs and the end of a run that goes on no more."""
        return tuple(self.outputs), self.end

    def finish(self):
        """End the run with the value that has been found last."""
        self.end = ("value", _shown(self.stack[-1]))

    def get_stuck(self, level):
        """End the run as one that is stuck at a level."""
        self.end = ("stuck", level)

    def step(self):
        """Take a step, or end the run if the fuel is used up; tell whether the run goes on."""
        if self.fuel == 0:
            self.end = ("more",)
            return False
        self.fuel -= 1
        return True

    def operate(self, word, level):
        """Do the operation of a call, sum, less or say with the values that have been found last."""
        operation = OPERATIONS[word]
        operation(self, level)

    def decide(self, level):
        """Tell whether the value that has been found last is not 0; get stuck, and tell None, if it is no integer."""
        condition = self.stack.pop()
        if isinstance(condition, Function):
            self.get_stuck(level)
            return None
        return condition != 0

    def set_on(self, key, setting):
        """Set something for all that follows; the value of this is 0."""
        self.settings[key] = setting
        self.stack.append(0)


class Walk(Run):
    """A run that walks through expressions.

    todo holds triples (word, thing, scope), the next one last; ("visit", e,
    scope) is the evaluation of an expression, what other words mean is up to
    the interpreter.
    """

    def __init__(self, fuel):
        Run.__init__(self, fuel)
        self.todo = []

    def is_going(self):
        """Tell whether something is left to do, otherwise end the run."""
        if self.end is None and not self.todo:
            self.finish()
        return self.end is None

    def visit(self, expression, scope):
        """Have an expression evaluated before all else that is still to do."""
        self.todo.append(("visit", expression, scope))

    def visit_all(self, expressions, scope):
        """Have expressions evaluated from left to right before all else that is still to do."""
        for expression in reversed(expressions):
            self.visit(expression, scope)

    def apply(self, function, value):
        """Have the body of a function evaluated, with its name bound to a value."""
        name, body = function.body
        self.visit(body, function.scope.bind(name, value))

    def choose(self, level, branches, scope):
        """Visit the first branch if the value that has been found last is not 0, otherwise the second one."""
        decision = self.decide(level)
        if decision is not None:
            self.visit(branches[0] if decision else branches[1], scope)

    def set_for(self, key, setting, body, scope):
        """Set something while the body is evaluated."""
        self.todo.append(("restore", (key, self.settings.get(key, 0)), scope))
        self.visit(body, scope)
        self.settings[key] = setting

    def restore(self, change):
        """Undo what has been set for a body that has been evaluated."""
        key, before = change
        self.settings[key] = before


def look_up(names, name):
    """Return what a name is bound to.

    names is None or a triple (name, what it is bound to, the names around it).
    Scopes share such chains: copies would take too much room where bodies are
    nested deeply.
    """
    while names[0] != name:
        names = names[2]
    return names[1]


def _shown(value):
    """Return what is shown for a value."""
    return ("fn", value.level) if isinstance(value, Function) else value


def _call(run, level):
    value = run.stack.pop()
    function = run.stack.pop()
    if not isinstance(function, Function) or function.level != level:
        run.get_stuck(level)
    elif run.step():
        run.apply(function, value)


def _sum(run, level):
    second = run.stack.pop()
    first = run.stack.pop()
    if isinstance(first, Function) or isinstance(second, Function):
        run.get_stuck(level)
    else:
        run.stack.append(first + second)


def _less(run, level):
    second = run.stack.pop()
    first = run.stack.pop()
    if isinstance(first, Function) or isinstance(second, Function):
        run.get_stuck(level)
    else:
        run.stack.append(1 if first < second else 0)


def _say(run, level):
    run.outputs.append((level, _shown(run.stack[-1])))


OPERATIONS = {"call": _call, "sum": _sum, "less": _less, "say": _say}
