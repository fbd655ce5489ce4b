import random
import unittest

from tests.examples import DOES, FORMS, KINDS, PARTS, WORDS, FewCalls, nested, random_program
from ziggurat.forms import height, is_well_formed, size

ONE = ("num", 1)
X = ("name", "x")
DEEP = 60000


def plainly_well_formed(node, names=(), about=None):
    """Points 4 to 6 said again, as plainly as can be, to compare with."""
    if not isinstance(node, tuple) or not node or not isinstance(node[0], str) or node[0] not in WORDS:
        return False

    def well(inner, *more):
        return plainly_well_formed(inner, names + more, about)

    def is_name(thing):
        return (isinstance(thing, str) and thing not in WORDS and 1 <= len(thing) <= 8
                and all(c in "abcdefghijklmnopqrstuvwxyzABCDEFGHIJKLMNOPQRSTUVWXYZ0123456789" for c in thing)
                and thing[0] not in "0123456789")

    def is_kind(thing):
        return isinstance(thing, str) and thing in KINDS

    def is_int(thing):
        return isinstance(thing, int) and thing is not True and thing is not False

    word, things = node[0], node[1:]
    lengths = {"num": 1, "name": 1, "fn": 2, "if": 3, "let": 3, "say": 1, "rule": 3, "part": 1, "with": 1,
               "usual": 0, "do": 1}
    if len(things) != lengths.get(word, 2):
        return False
    if word == "num":
        return is_int(things[0]) and abs(things[0]) <= 1000000
    if word == "name":
        return is_name(things[0]) and things[0] in names
    if word == "fn":
        return is_name(things[0]) and well(things[1], things[0])
    if word == "let":
        return is_name(things[0]) and well(things[1]) and well(things[2], things[0])
    if word in ("call", "sum", "less", "if", "say"):
        return all(well(thing) for thing in things)
    if word in ("rule", "keep"):
        return (is_kind(things[0]) and plainly_well_formed(things[1], (), things[0])
                and all(well(thing) for thing in things[2:]))
    if about is None:
        return False
    if word == "part":
        return is_int(things[0]) and things[0] in range(PARTS[about])
    if word == "with":
        return about == "let" and well(things[0])
    if word == "do":
        return (isinstance(things[0], tuple) and len(things[0]) == DOES.get(about)
                and all(well(thing) for thing in things[0]))
    return True


def mutated(rng, tree):
    """The tree with something else in one place, chosen at random."""
    if not isinstance(tree, tuple) or not tree or rng.random() < 0.15:
        return rng.choice([True, False, None, 0, 1, 2, -1, 3, 1000001, "x", "y", "sum", "num", "let", "", "9", (),
                           [], ("num", 1), ("name", "x"), ("usual",), ("part", 0), ("part", 1), ("with", ("num", 1)),
                           ("do", (("num", 1),)), ("do", (("num", 1), ("num", 1)))])
    at = rng.randrange(len(tree))
    act = rng.random()
    if act < 0.05:
        return tree[:at] + tree[at + 1:]
    if act < 0.1:
        return tree[:at] + (("num", 1),) + tree[at:]
    return tree[:at] + (mutated(rng, tree[at]),) + tree[at + 1:]


class WellFormedTest(FewCalls, unittest.TestCase):
    def good(self, program):
        self.assertIs(is_well_formed(program), True, program)

    def bad(self, program):
        self.assertIs(is_well_formed(program), False, program)

    def test_all_forms(self):
        for _, program in FORMS:
            self.good(program)

    def test_asks_only_in_rules(self):
        for ask in (("part", 0), ("with", ONE), ("usual",), ("do", (ONE,)), ("do", (ONE, ONE)), ("do", ())):
            self.bad(ask)
            self.bad(("say", ask))
            self.bad(("let", "x", ONE, ask))
            # the body of a rule stands outside of the rule
            for kind in KINDS:
                self.bad(("rule", kind, ONE, ask))

    def test_usual_in_all_rules(self):
        for kind in KINDS:
            self.good(("keep", kind, ("usual",)))
            self.good(("rule", kind, ("sum", ("usual",), ("usual",)), ONE))

    def test_part_numbers(self):
        for kind in KINDS:
            for i in range(-2, 6):
                self.assertIs(is_well_formed(("keep", kind, ("part", i))), 0 <= i < PARTS[kind], (kind, i))
                self.assertIs(is_well_formed(("rule", kind, ("part", i), ONE)), 0 <= i < PARTS[kind], (kind, i))
        self.bad(("keep", "if", ("part", 10 ** 30)))

    def test_with_only_about_let(self):
        for kind in KINDS:
            self.assertIs(is_well_formed(("keep", kind, ("with", ONE))), kind == "let", kind)
        self.good(("keep", "let", ("with", ("with", ("part", 0)))))

    def test_do_parts(self):
        for kind in KINDS:
            for many in range(5):
                self.assertIs(is_well_formed(("keep", kind, ("do", (ONE,) * many))), many == DOES.get(kind),
                              (kind, many))

    def test_asks_deep_in_a_rule(self):
        self.good(("keep", "let", ("fn", "x", ("let", "y", X, ("call", ("with", X), ("name", "y"))))))
        self.good(("keep", "sum", ("do", (("do", (("part", 0), ("part", 1))), ("if", ONE, ("usual",), ONE)))))
        self.bad(("keep", "sum", ("do", (("do", (("part", 0), ("part", 2))), ONE))))

    def test_rules_within_rules_have_their_own_asks(self):
        self.good(("keep", "if", ("keep", "say", ("part", 0))))
        self.bad(("keep", "if", ("keep", "say", ("part", 1))))
        self.good(("keep", "say", ("keep", "if", ("part", 2))))
        self.bad(("keep", "let", ("keep", "sum", ("with", ONE))))
        self.good(("keep", "sum", ("keep", "let", ("with", ONE))))
        self.bad(("keep", "num", ("keep", "name", ("part", 0))))
        # the body of the inner rule belongs to the outer one
        self.good(("keep", "if", ("rule", "say", ("part", 0), ("part", 2))))
        self.bad(("keep", "say", ("rule", "if", ("part", 2), ("part", 2))))
        self.good(("keep", "let", ("rule", "say", ("do", (ONE,)), ("with", ONE))))
        self.bad(("keep", "say", ("rule", "let", ("with", ONE), ("with", ONE))))

    def test_bound_names(self):
        self.good(("fn", "x", X))
        self.good(("let", "x", ONE, X))
        self.good(("fn", "x", ("let", "y", X, ("sum", X, ("name", "y")))))
        self.good(("let", "x", ONE, ("sum", ("let", "x", X, X), X)))
        self.good(("let", "x", ONE, ("rule", "num", ONE, X)))
        self.good(("fn", "x", ("sum", ("fn", "x", ONE), X)))

    def test_unbound_names(self):
        self.bad(X)
        self.bad(("let", "x", X, ONE))
        self.bad(("fn", "y", X))
        self.bad(("fn", "X", X))
        self.bad(("sum", ("let", "x", ONE, ONE), X))
        self.bad(("sum", X, ("let", "x", ONE, ONE)))
        self.bad(("call", ("fn", "x", X), X))
        self.bad(("sum", ("fn", "x", ("let", "x", ONE, X)), X))
        self.bad(("rule", "num", ("fn", "x", ONE), X))
        self.bad(("rule", "num", ("let", "x", ONE, X), X))

    def test_names_behind_a_rule(self):
        self.bad(("fn", "x", ("keep", "num", X)))
        self.bad(("let", "x", ONE, ("rule", "num", X, ONE)))
        self.bad(("let", "x", ONE, ("keep", "let", ("with", X))))
        self.bad(("keep", "num", ("let", "x", ONE, ("keep", "num", X))))
        self.bad(("let", "x", ONE, ("keep", "num", ("keep", "num", X))))
        self.good(("let", "x", ONE, ("keep", "num", ("fn", "x", X))))
        self.good(("keep", "num", ("let", "x", ONE, ("rule", "num", ONE, X))))
        self.good(("keep", "let", ("let", "x", ONE, ("with", X))))
        self.good(("keep", "say", ("let", "x", ONE, ("do", (X,)))))

    def test_names(self):
        for name in ("a", "Z", "a1", "abcdefgh", "A2345678", "kind", "sums", "Sum", "IF", "e", "r", "numb"):
            self.good(("fn", name, ("name", name)))
            self.good(("let", name, ONE, ("name", name)))
        for name in ["", "abcdefghi", "A23456789", "1", "1a", "-", "a-b", "a b", " a", "a\n", "a_b", "_", "(", "a.",
                     "\u00e9", "a\u00e9", "a\u00b2", "\u0661", "a\u0661"] + WORDS:
            self.bad(("fn", name, ("name", name)))
            self.bad(("fn", name, ONE))
            self.bad(("let", name, ONE, ("name", name)))
            self.bad(("let", name, ONE, ONE))

    def test_numbers(self):
        for n in (0, 1, -1, 999999, 1000000, -999999, -1000000):
            self.good(("num", n))
        for n in (1000001, -1000001, 10 ** 100, -10 ** 100, "1", True, False, None, 1.0, (), [1], b"1"):
            self.bad(("num", n))

    def test_wrong_lengths(self):
        for _, program in FORMS:
            self.bad(program + (ONE,))
            self.bad(program + (None,))
            self.bad(program[:-1])
            self.bad(program[:1] + program)
        self.bad(("keep", "num", ("usual", 0)))
        self.bad(("keep", "if", ("part",)))
        self.bad(("keep", "if", ("part", 0, 1)))
        self.bad(("keep", "sum", ("do", ONE, ONE)))
        self.bad(("keep", "let", ("with",)))
        self.bad(("rule", "num", ONE))
        self.bad(("keep", "num", ONE, ONE))

    def test_wrong_words(self):
        for word in ("", "Num", "sums", "+", "kind", "tick", "switch", "x", 0, None, True, ("num",), []):
            self.bad((word,))
            self.bad((word, 1))
            self.bad((word, ONE, ONE))
            self.bad(("say", (word, ONE)))

    def test_wrong_kinds(self):
        for kind in ("", "rule", "keep", "part", "with", "usual", "do", "Num", "x", 0, None, True, ("num",), ["num"]):
            self.bad(("keep", kind, ONE))
            self.bad(("rule", kind, ONE, ONE))

    def test_other_values_in_every_place(self):
        others = (True, False, None, [], ["num", 1], "", "x", "num", 0, 1, 1.5, b"x", {}, (), ((),), set(), object())
        for other in others:
            self.bad(other)
            for _, program in FORMS:
                for at in range(len(program)):
                    changed = program[:at] + (other,) + program[at + 1:]
                    self.assertIs(is_well_formed(changed), plainly_well_formed(changed), changed)
        for other in (True, False, None, [], "0", 0.0, (0,)):
            self.bad(("keep", "if", ("part", other)))
        for other in (True, None, [ONE, ONE], [ONE], "ab", 2, {}, ONE):
            self.bad(("keep", "sum", ("do", other)))
            self.bad(("keep", "sum", ("do", (ONE, other))) if other is not ONE else ("do", other))
        for program in (["num", 1], ("say", ["num", 1]), ("keep", "num", ["usual"])):
            self.bad(program)

    def test_against_plain_words(self):
        rng = random.Random(5)
        seen = {True: 0, False: 0}
        for _ in range(4000):
            program = random_program(rng, rng.randrange(1, 7))
            self.good(program)
            program = mutated(rng, program)
            expected = plainly_well_formed(program)
            seen[expected] += 1
            self.assertIs(is_well_formed(program), expected, program)
        self.assertGreater(min(seen.values()), 100)

    def test_limits_of_programs_are_no_part_of_it(self):
        self.good(nested(100, ONE, lambda e: ("say", e)))
        self.good(nested(8, ONE, lambda e: ("sum", e, e)))
        self.good(nested(10, ONE, lambda e: ("keep", "num", e)))

    def test_very_deep_and_well_formed(self):
        self.good(nested(DEEP, ONE, lambda e: ("say", e)))
        self.good(nested(DEEP, ONE, lambda e: ("if", ONE, ONE, e)))
        self.good(nested(DEEP, X, lambda e: ("let", "x", ONE, e)))
        self.good(nested(DEEP, ("fn", "x", X), lambda e: ("fn", "x", ("sum", e, X))))
        self.good(nested(DEEP, ("usual",), lambda e: ("keep", "num", e)))
        self.good(nested(DEEP, ONE, lambda e: ("rule", "num", ("usual",), e)))
        self.good(("keep", "say", nested(DEEP, ("part", 0), lambda e: ("do", (e,)))))
        self.good(("keep", "let", nested(DEEP, ONE, lambda e: ("with", e))))

    def test_very_deep_and_not_well_formed(self):
        self.bad(nested(DEEP, (), lambda e: (e,)))
        self.bad(nested(DEEP, ONE, lambda e: ("say", (e,))))
        self.bad(nested(DEEP, X, lambda e: ("say", e)))
        self.bad(nested(DEEP, True, lambda e: ("say", e)))
        self.bad(nested(DEEP, ("usual",), lambda e: ("say", e)))
        self.bad(nested(DEEP, ["num", 1], lambda e: ("keep", "num", e)))
        self.bad(("fn", "x", nested(DEEP, X, lambda e: ("keep", "num", e))))
        deep = nested(DEEP, ONE, lambda e: ("say", e))
        for program in (("num", deep), ("name", deep), ("fn", deep, ONE), ("keep", deep, ONE), (deep, ONE),
                        ("let", deep, ONE, ONE), ("rule", deep, ONE, ONE), ("keep", "if", ("part", deep)),
                        ("keep", "sum", ("do", deep)), ("usual", deep), ("keep", "num", ("usual", deep))):
            self.bad(program)

    def test_same_answer_again(self):
        for _, program in FORMS:
            kept = repr(program)
            for _ in range(2):
                self.good(program)
                self.bad(("sum", program, ("usual",)))
            self.assertEqual(repr(program), kept)
        self.good(("fn", "x", X))
        self.bad(X)


class SizeTest(unittest.TestCase):
    def test_without_expressions_in_it(self):
        for leaf in (ONE, X, ("usual",), ("part", 0)):
            self.assertEqual(size(leaf), (1, 1))
            self.assertEqual(height(leaf), 0)

    def test_without_rules(self):
        for program, nodes, depth in (
            (("fn", "x", X), 2, 2), (("call", ONE, ONE), 3, 2), (("sum", ONE, ("sum", ONE, ONE)), 5, 3),
            (("sum", ("sum", ONE, ONE), ONE), 5, 3), (("less", ONE, ONE), 3, 2),
            (("if", ONE, ("say", ("say", ONE)), ONE), 6, 4), (("let", "x", ("say", ONE), X), 4, 3),
            (("let", "x", ONE, ("say", X)), 4, 3), (("say", ONE), 2, 2),
        ):
            self.assertEqual(size(program), (nodes, depth), program)
            self.assertEqual(height(program), 0, program)

    def test_rules_count(self):
        for program, nodes, depth, level in (
            (("keep", "num", ONE), 2, 2, 1),
            (("rule", "num", ("say", ("say", ONE)), ONE), 5, 4, 1),
            (("rule", "num", ONE, ("say", ("say", ONE))), 5, 4, 1),
            (("keep", "let", ("with", ("part", 0))), 3, 3, 1),
            (("keep", "sum", ("do", (("part", 0), ("say", ONE)))), 5, 4, 1),
            (("keep", "num", ("keep", "num", ("usual",))), 3, 3, 2),
            (("rule", "num", ("rule", "sum", ("keep", "if", ("part", 1)), ("usual",)), ("say", ONE)), 7, 4, 3),
            (("sum", ("keep", "num", ONE), ("rule", "num", ONE, ("keep", "num", ONE))), 7, 4, 1),
            (("rule", "num", ONE, ("keep", "num", ("keep", "num", ONE))), 5, 4, 2),
            (("rule", "num", ("keep", "num", ("keep", "num", ONE)), ONE), 5, 4, 3),
        ):
            self.assertEqual(size(program), (nodes, depth), program)
            self.assertEqual(height(program), level, program)

    def test_beyond_the_limits(self):
        self.assertEqual(size(nested(200, ONE, lambda e: ("say", e))), (201, 201))
        self.assertEqual(size(nested(9, ONE, lambda e: ("sum", e, e))), (1023, 10))
        self.assertEqual(height(nested(20, ONE, lambda e: ("keep", "num", e))), 20)

    def test_same_answer_again(self):
        for _, program in FORMS:
            kept = repr(program)
            self.assertEqual(size(program), size(program))
            self.assertEqual(height(program), height(program))
            self.assertIsInstance(size(program), tuple)
            self.assertEqual(repr(program), kept)


if __name__ == "__main__":
    unittest.main()
