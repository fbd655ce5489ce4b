"""Points 7 to 19 said again, as plainly as can be, to compare with: by functions that call themselves."""

import sys

from tests.examples import KINDS, PARTS

sys.setrecursionlimit(max(sys.getrecursionlimit(), 50000))


class Ended(Exception):
    def __init__(self, end):
        super().__init__(str(end))
        self.end = end


class Clock:
    """What a run prints, and what is left of its fuel."""

    def __init__(self, fuel):
        self.left = fuel
        self.outputs = []

    def step(self):
        if self.left == 0:
            raise Ended(("more",))
        self.left -= 1

    def run(self, evaluate):
        try:
            end = ("value", shown(evaluate()))
        except Ended as ended:
            end = ended.end
        return tuple(self.outputs), end

    def say(self, level, value):
        self.outputs.append((level, shown(value)))
        return value

    def apply(self, level, function, value):
        if isinstance(function, int) or function[0] != level:
            raise Ended(("stuck", level))
        self.step()
        return function[1](value)

    def operation(self, word, level, values):
        """The operation of a call, sum, less or say."""
        if word == "call":
            return self.apply(level, *values)
        if word == "say":
            return self.say(level, *values)
        a, b = [integer(level, value) for value in values]
        return a + b if word == "sum" else int(a < b)


def shown(value):
    return value if isinstance(value, int) else ("fn", value[0])


def integer(level, value):
    if not isinstance(value, int):
        raise Ended(("stuck", level))
    return value


def parts_of(node):
    """The parts of an expression of a changeable kind."""
    if node[0] == "let":
        return (node[2],)
    return node[1:] if PARTS[node[0]] else ()


def plainly_run(program, fuel):
    """The run of a program; functions are pairs (level, what they do)."""
    clock = Clock(fuel)
    rules = {}

    def evaluate(node, level, names, about):
        rule = rules.get((level, node[0]))
        if rule is None:
            return usual(node, level, names, about)
        return evaluate(rule, level + 1, {}, (node, level, names, about))

    def usual(node, level, names, about):
        def inner(expression, more=()):
            return evaluate(expression, level, {**names, **dict(more)}, about)

        word = node[0]
        if word == "num":
            return node[1]
        if word == "name":
            return names[node[1]]
        if word == "fn":
            return level, lambda value: inner(node[2], [(node[1], value)])
        if word == "if":
            return inner(node[2] if integer(level, inner(node[1])) else node[3])
        if word == "let":
            return inner(node[3], [(node[1], inner(node[2]))])
        if word in ("rule", "keep"):
            before = rules.get((level, node[1]))
            rules[level, node[1]] = node[2]
            if word == "keep":
                return 0
            value = inner(node[3])
            rules[level, node[1]] = before
            return value
        if word in ("part", "with", "usual", "do"):
            return ask(node, inner, *about)
        return clock.operation(word, level, [inner(part) for part in node[1:]])

    def ask(node, inner, below, level, names, about):
        parts = node[1] if node[0] == "do" else node[1:] if node[0] == "with" else ()
        values = [inner(part) for part in parts]
        clock.step()
        if node[0] == "part":
            return evaluate(parts_of(below)[node[1]], level, names, about)
        if node[0] == "usual":
            return usual(below, level, names, about)
        if node[0] == "with":
            return evaluate(below[3], level, {**names, below[1]: values[0]}, about)
        return clock.operation(below[0], level, values)

    return clock.run(lambda: evaluate(program, 0, {}, None))


def plainly_run_plain(plain, fuel):
    """The run of a plain program; the names of what is delayed have a pair around them."""
    clock = Clock(fuel)
    switches = {}

    def evaluate(node, names):
        def inner(expression, more=()):
            return evaluate(expression, {**names, **dict(more)})

        word = node[0]
        if word == "num":
            return node[1]
        if word == "name":
            return names[node[1]]
        if word == "fn":
            return node[1], lambda value: inner(node[3], [(node[2], value)])
        if word == "if":
            return inner(node[3] if integer(node[1], inner(node[2])) else node[4])
        if word == "let":
            return inner(node[3], [(node[1], inner(node[2]))])
        if word == "delay":
            return inner(node[3], [(("delayed", node[1]), lambda: inner(node[2]))])
        if word == "force":
            return names["delayed", node[1]]()
        if word == "tick":
            clock.step()
            return inner(node[1])
        if word == "switch":
            return inner(dict(node[2]).get(switches.get(node[1], 0), node[3]))
        if word in ("set", "put"):
            before = switches.get(node[1], 0)
            switches[node[1]] = node[2]
            if word == "put":
                return 0
            value = inner(node[3])
            switches[node[1]] = before
            return value
        return clock.operation(word, node[1], [inner(part) for part in node[2:]])

    return clock.run(lambda: evaluate(plain, {}))


class Fixed(tuple):
    """An expression in a collapse that is not itself a collapse of anything, so that no force stands for it."""


class Expansion:
    """The collapse of a program without delays: all that is due stands at each of its places."""

    def __init__(self, program):
        self.rules = {}
        self.numbers = {}
        self.count = 0
        self.number(program, 0, ())
        self.names = 0
        self.plain = self.collapse(program, 0, (), {}, None)

    def number(self, node, level, path):
        """Number the rules in the order of the text; a path is the way from the program to an expression."""
        if node[0] in ("rule", "keep"):
            self.numbers[path] = len(self.numbers) + 1
            self.rules.setdefault((level, node[1]), []).append((self.numbers[path], node[2], path + (2,)))
        for at, inner in enumerate(node):
            up = level + 1 if node[0] in ("rule", "keep") and at == 2 else level
            if node[0] == "do" and at == 1:
                for k, part in enumerate(inner):
                    self.number(part, level, path + (1, k))
            elif isinstance(inner, tuple):
                self.number(inner, up, path + (at,))

    def fresh(self):
        self.names += 1
        return f"fresh{self.names}"

    def collapse(self, node, level, path, names, about):
        if node[0] not in KINDS or (level, node[0]) not in self.rules:
            return self.usual(node, level, path, names, about)
        branches = [(number, self.collapse(rule, level + 1, place, {}, (node, level, path, names, about)))
                    for number, rule, place in self.rules[level, node[0]]]
        last = self.usual(node, level, path, names, about)
        return ("switch", 9 * level + KINDS.index(node[0]), tuple(branches), last)

    def usual(self, node, level, path, names, about):
        self.count += 1
        if self.count > 20000:
            raise OverflowError

        def inner(*way, **more):
            expression = node
            for at in way:
                expression = expression[at]
            return self.collapse(expression, level, path + way, {**names, **more}, about)

        word = node[0]
        if word == "num":
            return node
        if word == "name":
            return ("name", names[node[1]])
        if word == "fn":
            y = self.fresh()
            return ("fn", level, y, inner(2, **{node[1]: y}))
        if word == "let":
            y = self.fresh()
            return ("let", y, inner(2), inner(3, **{node[1]: y}))
        if word == "rule":
            return ("set", 9 * level + KINDS.index(node[1]), self.numbers[path], inner(3))
        if word == "keep":
            return ("put", 9 * level + KINDS.index(node[1]), self.numbers[path])
        if word in ("part", "with", "usual", "do"):
            return self.ask(node, inner, *about)
        return (word, level) + tuple([inner(at) for at in range(1, len(node))])

    def ask(self, node, inner, below, level, path, names, about):
        if node[0] == "part":
            at = 2 if below[0] == "let" else 1 + node[1]
            return ("tick", self.collapse(below[at], level, path + (at,), names, about))
        if node[0] == "usual":
            return ("tick", self.usual(below, level, path, names, about))
        if node[0] == "with":
            y = self.fresh()
            body = self.collapse(below[3], level, path + (3,), {**names, below[1]: y}, about)
            return ("let", y, inner(1), Fixed(("tick", body)))
        chosen = [self.fresh() for _ in node[1]]
        made = Fixed(("tick", Fixed((below[0], level) + tuple([Fixed(("name", y)) for y in chosen]))))
        for k in reversed(range(len(chosen))):
            made = Fixed(("let", chosen[k], inner(1, k), made))
        return tuple(made)


def with_even_names(plain):
    """A plain expression without delays, with each bound name called by the number of names around it."""
    def even(node, names):
        if node[0] == "name":
            return ("name", names[node[1]])
        if node[0] == "fn":
            return node[:2] + (len(names), even(node[3], {**names, node[2]: len(names)}))
        if node[0] == "let":
            return ("let", len(names), even(node[2], names), even(node[3], {**names, node[1]: len(names)}))
        if node[0] == "switch":
            return node[:2] + (tuple([(n, even(branch, names)) for n, branch in node[2]]), even(node[3], names))
        return tuple([even(thing, names) if isinstance(thing, tuple) else thing for thing in node])

    return even(plain, {})


def without_delays(plain):
    """A plain expression in which each force is what it forces; all names that it binds must be different."""
    bound = [node[2] if node[0] == "fn" else node[1] for node in nodes_of(plain) if node[0] in ("fn", "let")]
    delayed = [node[1] for node in nodes_of(plain) if node[0] == "delay"]
    assert len(set(bound)) == len(bound) and len(set(delayed)) == len(delayed)

    def forced(node, delays):
        if node[0] == "force":
            return delays[node[1]]
        if node[0] == "delay":
            return forced(node[3], {**delays, node[1]: forced(node[2], delays)})
        if node[0] == "switch":
            branches = tuple([(n, forced(branch, delays)) for n, branch in node[2]])
            return node[:2] + (branches, forced(node[3], delays))
        return tuple([forced(thing, delays) if isinstance(thing, tuple) else thing for thing in node])

    return forced(plain, {})


def plainly_is_collapse(program, plain):
    """Whether something that is plain in form is a collapse; compares with the whole collapse without delays."""
    def fits(q, tree, names, delays):
        """names lead to the names of the tree, delays to what is delayed and the names and delays that it has."""
        if q[0] == "force":
            if isinstance(tree, Fixed) or q[1] not in delays:
                return False
            return fits(delays[q[1]][0], tree, *delays[q[1]][1:])
        while q[0] == "delay" and tree[0] == "switch":
            delays = {**delays, q[1]: (q[2], names, delays)}
            q = q[3]
        if q[0] != tree[0]:
            return False
        if q[0] == "name":
            return names.get(q[1]) == tree[1]
        if q[0] == "fn":
            return q[1] == tree[1] and fits(q[3], tree[3], {**names, q[2]: tree[2]}, delays)
        if q[0] == "let":
            return fits(q[2], tree[2], names, delays) and fits(q[3], tree[3], {**names, q[1]: tree[1]}, delays)
        if atoms_of(q) != atoms_of(tree):
            return False
        return all(fits(a, b, names, delays) for a, b in zip(children_of(q), children_of(tree)))

    return fits(plain, Expansion(program).plain, {}, {})


def atoms_of(node):
    """What stands in a plain expression besides expressions."""
    if node[0] == "switch":
        return node[:2] + tuple([number for number, _ in node[2]])
    return tuple([thing for thing in node if not isinstance(thing, tuple)])


def children_of(node):
    """The expressions that stand directly in a plain expression."""
    if node[0] == "switch":
        return [branch for _, branch in node[2]] + [node[3]]
    return [thing for thing in node[1:] if isinstance(thing, tuple)]


def nodes_of(plain):
    """All expressions in a plain expression, itself included."""
    found = []
    todo = [plain]
    while todo:
        node = todo.pop()
        found.append(node)
        todo.extend(children_of(node))
    return found
