"""Programs and texts that several tests share, and a maker of random programs."""

import sys

# Each form of point 13, with its printed text.
FORMS = [
    ("0", ("num", 0)),
    ("7", ("num", 7)),
    ("-7", ("num", -7)),
    ("1000000", ("num", 1000000)),
    ("-1000000", ("num", -1000000)),
    ("(fn x 1)", ("fn", "x", ("num", 1))),
    ("(fn x x)", ("fn", "x", ("name", "x"))),
    ("(call 1 2)", ("call", ("num", 1), ("num", 2))),
    ("(sum 1 2)", ("sum", ("num", 1), ("num", 2))),
    ("(less 1 2)", ("less", ("num", 1), ("num", 2))),
    ("(if 1 2 3)", ("if", ("num", 1), ("num", 2), ("num", 3))),
    ("(let x 1 x)", ("let", "x", ("num", 1), ("name", "x"))),
    ("(say 1)", ("say", ("num", 1))),
    ("(rule num 1 2)", ("rule", "num", ("num", 1), ("num", 2))),
    ("(rule name (usual) 2)", ("rule", "name", ("usual",), ("num", 2))),
    ("(rule fn (usual) 2)", ("rule", "fn", ("usual",), ("num", 2))),
    ("(keep num 1)", ("keep", "num", ("num", 1))),
    ("(keep if (part 2))", ("keep", "if", ("part", 2))),
    ("(keep let (with 1))", ("keep", "let", ("with", ("num", 1)))),
    ("(keep num (usual))", ("keep", "num", ("usual",))),
    ("(keep say (do 1))", ("keep", "say", ("do", (("num", 1),)))),
    ("(keep call (do 1 2))", ("keep", "call", ("do", (("num", 1), ("num", 2))))),
    ("(keep sum (do (part 1) (part 0)))", ("keep", "sum", ("do", (("part", 1), ("part", 0))))),
    ("(keep less (do 1 (say 2)))", ("keep", "less", ("do", (("num", 1), ("say", ("num", 2)))))),
    ("(say (say (sum (say 1) (say 2))))",
     ("say", ("say", ("sum", ("say", ("num", 1)), ("say", ("num", 2)))))),
    ("(fn a1B2 (call a1B2 a1B2))", ("fn", "a1B2", ("call", ("name", "a1B2"), ("name", "a1B2")))),
    ("(rule sum (rule let (with (usual)) (do (usual) 1)) (sum 1 2))",
     ("rule", "sum",
      ("rule", "let", ("with", ("usual",)), ("do", (("usual",), ("num", 1)))),
      ("sum", ("num", 1), ("num", 2)))),
    ("(let x 1 (rule num (let x 2 x) (keep fn (fn y y))))",
     ("let", "x", ("num", 1),
      ("rule", "num", ("let", "x", ("num", 2), ("name", "x")),
       ("keep", "fn", ("fn", "y", ("name", "y")))))),
]

KINDS = ["num", "name", "fn", "call", "sum", "less", "if", "let", "say"]
PARTS = {"num": 0, "name": 0, "fn": 0, "call": 2, "sum": 2, "less": 2, "if": 3, "let": 1, "say": 1}
DOES = {"call": 2, "sum": 2, "less": 2, "say": 1}
WORDS = KINDS + ["rule", "keep", "part", "with", "usual", "do"]


class FewCalls:
    """For tests of what must not depend on how deep functions of Python may call one another."""

    def setUp(self):
        self.addCleanup(sys.setrecursionlimit, sys.getrecursionlimit())
        sys.setrecursionlimit(300)


def random_program(random, depth, names=(), about=None):
    """A random well-formed expression, with the names that are bound and the kind that its rule is about."""
    if depth <= 1:
        return random_leaf(random, names, about)
    word = random.choice(KINDS + ["rule", "keep"] + (["with", "do"] if about else []))

    def inner(*more):
        return random_program(random, depth - 1, names + more, about)

    def rule(kind):
        return random_program(random, depth - 1, (), kind)

    if word in ("fn", "let"):
        name = random.choice(["x", "y", "Z9", "abcdefgh"])
        return (word, name, inner(name)) if word == "fn" else (word, name, inner(), inner(name))
    if word in ("call", "sum", "less"):
        return (word, inner(), inner())
    if word == "if":
        return (word, inner(), inner(), inner())
    if word in ("rule", "keep"):
        kind = random.choice(KINDS)
        return (word, kind, rule(kind), inner()) if word == "rule" else (word, kind, rule(kind))
    if word == "say" or word == "with" and about == "let":
        return (word, inner())
    if word == "do" and about in DOES:
        return (word, tuple([inner() for _ in range(DOES[about])]))
    return random_leaf(random, names, about)


def random_leaf(random, names, about):
    choices = [("num", random.choice([0, 1, -1, 12, -1000000, 1000000]))]
    choices.extend([("name", name) for name in names])
    if about:
        choices.append(("usual",))
        choices.extend([("part", i) for i in range(PARTS[about])])
    return random.choice(choices)


def nested(times, kernel, wrap):
    """The kernel, wrapped a number of times."""
    for _ in range(times):
        kernel = wrap(kernel)
    return kernel


def text_of_nodes(many):
    """The text of a shallow program with a number of nodes."""
    if many < 3:
        return ["", "1", "(say 1)"][many]
    left = (many - 1) // 2
    return f"(sum {text_of_nodes(left)} {text_of_nodes(many - 1 - left)})"
