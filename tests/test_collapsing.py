import random
import unittest

from tests.examples import FORMS, KINDS, PARTS, FewCalls, nested, random_program, text_of_nodes
from tests.reference import Expansion, nodes_of, plainly_run_plain, with_even_names, without_delays
from tests.running import Maker
from ziggurat.collapsing import collapse
from ziggurat.errors import LimitError
from ziggurat.forms import height, is_well_formed, size
from ziggurat.plain import plain_size, run_plain
from ziggurat.texts import parse, print_program
from ziggurat.tower import run

ONE = ("num", 1)
X = ("name", "x")


def even(plain):
    return with_even_names(without_delays(plain))


def is_within_the_promise(program):
    """Tell whether no rules stand within rules, and no lets within bodies of lets."""
    def has(node, words, at):
        """Tell whether one of the words stands in such a place of an expression of one of these words."""
        found = node[0] in words and stands(node[at], words)
        return found or any(has(inner, words, at) for inner in inner_of(node))

    def stands(node, words):
        return node[0] in words or any(stands(inner, words) for inner in inner_of(node))

    return height(program) <= 1 and not has(program, ("let",), 3)


def inner_of(node):
    if node[0] == "do":
        return node[1]
    return [inner for inner in node[1:] if isinstance(inner, tuple)]


class CollapseTest(unittest.TestCase):
    def check_run(self, program, plain, fuels):
        for fuel in fuels:
            self.assertEqual(run_plain(plain, fuel), run(program, fuel), (print_program(program), fuel))

    def check_form(self, program, plain):
        """The collapse fits the program, as one without delays does when the delays are put in their places."""
        self.assertEqual(even(plain), with_even_names(Expansion(program).plain), print_program(program))

    def check_delays(self, plain):
        """There are delays around switches only, one at most for each part and one for the built-in way."""
        todo = [(plain, 0)]
        while todo:
            node, delays = todo.pop()
            if node[0] == "delay":
                todo.append((node[3], delays + 1))
                todo.append((node[2], 0))
                continue
            if delays > 0:
                self.assertEqual(node[0], "switch")
                self.assertLessEqual(delays, PARTS[KINDS[node[1] % 9]] + 1)
            branches = [branch for _, branch in node[2]] + [node[3]] if node[0] == "switch" else inner_of(node)
            todo.extend([(branch, 0) for branch in branches])

    def collapsed(self, text):
        """The collapse of a text, with even names and without delays; its form, delays and runs have been checked."""
        program = parse(text)
        plain = collapse(program)
        self.check_run(program, plain, list(range(12)) + [100, 2000])
        self.check_form(program, plain)
        self.check_delays(plain)
        return even(plain)


class NoRulesTest(CollapseTest):
    def test_the_collapse_is_the_program_but_for_names_and_levels(self):
        for text, plain in (
            ("7", ("num", 7)),
            ("(fn x x)", ("fn", 0, 0, ("name", 0))),
            ("(call (fn x x) 1)", ("call", 0, ("fn", 0, 0, ("name", 0)), ONE)),
            ("(sum 1 (less 1 2))", ("sum", 0, ONE, ("less", 0, ONE, ("num", 2)))),
            ("(if 0 1 (say 1))", ("if", 0, ("num", 0), ONE, ("say", 0, ONE))),
            ("(let x 1 (let x x (let y 1 (sum x y))))",
             ("let", 0, ONE, ("let", 1, ("name", 0), ("let", 2, ONE, ("sum", 0, ("name", 1), ("name", 2)))))),
        ):
            self.assertEqual(self.collapsed(text), plain)

    def test_no_switches_and_no_delays(self):
        rng = random.Random(17)
        for _ in range(300):
            program = Maker(rng, levels=0).expression("int", 5, (), None, 0)
            words = [node[0] for node in nodes_of(collapse(program))]
            self.assertEqual(len(words), size(program)[0])
            self.assertNotIn("switch", words)
            self.assertNotIn("delay", words)


class SwitchTest(CollapseTest):
    def test_numbers_of_switches(self):
        for k, kind in enumerate(KINDS):
            plain = collapse(parse(f"(rule {kind} 5 (call (fn x (if 0 (less 1 (sum 1 x)) (let y 1 (say y)))) 1))"))
            self.assertEqual({node[1] for node in nodes_of(plain) if node[0] in ("switch", "set")}, {k})
            plain = collapse(parse(f"(rule num (keep {kind} 5) (rule name (let y 1 (say y)) 1))"))
            self.assertEqual({node[1] for node in nodes_of(plain) if node[0] == "put"}, {9 + k})
            plain = collapse(parse(f"(rule num (rule num (keep {kind} 5) 1) 1)"))
            self.assertIn(("put", 18 + k, 3), nodes_of(plain))
            plain = collapse(("rule", "num", ("rule", "num", ("rule", "num", ("keep", kind, ONE), ONE), ONE), ONE))
            self.assertIn(("put", 27 + k, 4), nodes_of(plain))

    def test_a_rule_without_asks(self):
        self.assertEqual(self.collapsed("(rule num 5 (sum 1 2))"), ("set", 0, 1, (
            "sum", 0, ("switch", 0, ((1, ("num", 5)),), ONE), ("switch", 0, ((1, ("num", 5)),), ("num", 2)))))
        self.assertEqual(self.collapsed("(rule sum 5 1)"), ("set", 4, 1, ONE))
        self.assertEqual(self.collapsed("(keep sum 5)"), ("put", 4, 1))

    def test_numbers_of_rules(self):
        """A rule comes before the rules within it, and these before the ones in the body."""
        found = self.collapsed("(rule say (rule num (keep if 6) 5) (sum (keep less 4) (rule call 2 (keep say 3))))")
        self.assertEqual(found, ("set", 8, 1, ("sum", 0, ("put", 5, 4), ("set", 3, 5, ("put", 8, 6)))))
        found = self.collapsed("(rule num (keep num (keep num (usual))) (sum 1 (keep sum 5)))")
        one = ("switch", 0, ((1, ("put", 9, 2)),), ONE)
        five = ("switch", 9, ((2, ("put", 18, 3)),), ("num", 5))
        self.assertEqual(found, ("set", 0, 1, ("switch", 4, ((4, five),), ("sum", 0, one, ("put", 4, 4)))))

    def test_equal_rules_have_numbers_of_their_own(self):
        found = self.collapsed("(rule num 5 (sum (keep num 5) (sum (keep num 5) 1)))")
        switch = ("switch", 0, ((1, ("num", 5)), (2, ("num", 5)), (3, ("num", 5))), ONE)
        self.assertEqual(found, ("set", 0, 1, ("sum", 0, ("put", 0, 2), ("sum", 0, ("put", 0, 3), switch))))
        rule = ("keep", "num", ("num", 5))
        self.assertEqual(collapse(("sum", rule, rule)), ("sum", 0, ("put", 0, 1), ("put", 0, 2)))

    def test_rules_that_can_never_be_in_force(self):
        found = self.collapsed("(sum 1 (if 0 (rule num 5 1) (fn x (keep num 6))))")
        branches = ((1, ("num", 5)), (2, ("num", 6)))

        def num(n):
            return ("switch", 0, branches, ("num", n))
        self.assertEqual(found, ("sum", 0, num(1), (
            "if", 0, num(0), ("set", 0, 1, num(1)), ("fn", 0, 0, ("put", 0, 2)))))

    def test_rules_of_other_levels_are_no_branches(self):
        found = self.collapsed("(rule num (rule num 6 2) 1)")
        inner = ("set", 9, 2, ("switch", 9, ((2, ("num", 6)),), ("num", 2)))
        self.assertEqual(found, ("set", 0, 1, ("switch", 0, ((1, inner),), ONE)))
        found = self.collapsed("(sum (rule num (sum 1 1) 2) (rule sum 7 3))")
        three = ("sum", 1, ONE, ONE)
        self.assertEqual(found, ("switch", 4, ((2, ("num", 7)),), ("sum", 0, (
            "set", 0, 1, ("switch", 0, ((1, three),), ("num", 2))), (
            "set", 4, 2, ("switch", 0, ((1, three),), ("num", 3))))))


class AskTest(CollapseTest):
    def test_part_and_usual(self):
        built_in = ("sum", 0, ONE, ("num", 2))
        for ask, found in (("(part 0)", ONE), ("(part 1)", ("num", 2)), ("(usual)", built_in)):
            self.assertEqual(self.collapsed(f"(rule sum {ask} (sum 1 2))"),
                             ("set", 4, 1, ("switch", 4, ((1, ("tick", found)),), built_in)))

    def test_do(self):
        for kind, parts in (("sum", "1 2"), ("less", "1 2"), ("call", "1 2"), ("say", "1")):
            count = 1 if kind == "say" else 2
            names = tuple([("name", at) for at in range(count)])
            branch = ("tick", (kind, 0) + names)
            for at in reversed(range(count)):
                branch = ("let", at, ("num", at + 1), branch)
            last = (kind, 0) + (("num", 5),) * count
            self.assertEqual(self.collapsed(f"(rule {kind} (do {parts}) ({kind}{' 5' * count}))"),
                             ("set", KINDS.index(kind), 1, ("switch", KINDS.index(kind), ((1, branch),), last)))

    def test_with(self):
        self.assertEqual(
            self.collapsed("(fn x (rule let (let x 1 (with (sum x 5))) (let y 2 (sum x y))))"),
            ("fn", 0, 0, ("set", 7, 1, (
                "switch", 7,
                ((1, ("let", 1, ONE, ("let", 2, ("sum", 1, ("name", 1), ("num", 5)),
                                      ("tick", ("sum", 0, ("name", 0), ("name", 2)))))),),
                ("let", 1, ("num", 2), ("sum", 0, ("name", 0), ("name", 1)))))))

    def test_names_that_are_the_same_at_several_levels(self):
        for text in (
            "(let x 1 (rule let (let x 5 (sum x (with 2))) (let y 3 (sum x y))))",
            "(let x 1 (rule let (let x 5 (sum x (with x))) (let x x (sum x x))))",
            "(let x 1 (rule sum (let x 10 (sum (do x (part 0)) (usual))) (let x 2 (sum x x))))",
            "(rule let (let x 3 (rule let (let x 4 (with (sum x 1))) (let x x (with x)))) (let x 2 (say x)))",
            "(let x 1 (rule call (let x (part 1) (do (part 0) x)) (call (fn x (sum x x)) x)))",
        ):
            self.collapsed(text)

    def test_asks_of_functions_that_are_called_elsewhere(self):
        for text in (
            "(rule sum (fn x (part 0)) (let f (sum (say 3) 4) (rule call (call (part 0) (part 1)) (call f 0))))",
            "(rule let (call (fn f (call f (call f 1))) (fn y (with y))) (let x 0 (sum x x)))",
            "(rule sum (fn x (usual)) (let f (sum 1 2) (rule sum 50 (rule call (call (part 0) 0) (call f 1)))))",
        ):
            self.collapsed(text)

    def test_each_kind_at_each_level(self):
        rng = random.Random(4)
        for kind in KINDS:
            for level in (1, 2, 3):
                for _ in range(12):
                    program = Maker(rng, level).expression("int", 3, (), None, 0)
                    for _ in range(level):
                        program = ("rule", kind, Maker(rng, level).rule(kind, 3, 0), program)
                    plain = collapse(program)
                    self.check_run(program, plain, (0, 1, 2, 3, 4, 7, 20))
                    self.check_delays(plain)


class ManyProgramsTest(CollapseTest):
    def test_same_run_and_form(self):
        rng = random.Random(20)
        ends = {}
        for _ in range(700):
            program = Maker(rng).program(rng.randrange(2, 6))
            if size(program)[0] > 60 or height(program) > 3:
                continue
            plain = collapse(program)
            self.check_delays(plain)
            self.check_run(program, plain, list(range(25)) + [60])
            end = run_plain(plain, 60)
            self.assertEqual(end, plainly_run_plain(plain, 60))
            ends[end[1][0]] = ends.get(end[1][0], 0) + 1
            try:
                expanded = Expansion(program).plain
            except OverflowError:
                continue
            self.assertEqual(even(plain), with_even_names(expanded), print_program(program))
        self.assertGreater(min(ends["value"], ends["stuck"], ends["more"]), 15)

    def test_any_programs(self):
        rng = random.Random(21)
        for _ in range(700):
            program = random_program(rng, rng.randrange(1, 8))
            if size(program)[0] <= 60 and height(program) <= 3:
                plain = collapse(program)
                self.check_run(program, plain, range(8))
                self.check_delays(plain)

    def test_same_answer_again_and_nothing_is_modified(self):
        rng = random.Random(22)
        programs = [program for _, program in FORMS if is_well_formed(program)]
        programs.extend([Maker(rng).program(4) for _ in range(100)])
        for program in programs:
            kept = repr(program)
            plain = collapse(program)
            self.assertIs(plain.__class__, tuple)
            self.assertEqual(collapse(program), plain)
            self.assertEqual(repr(program), kept)

    def test_only_tuples_strings_and_integers(self):
        def check(thing):
            self.assertIn(thing.__class__, (tuple, str, int))
            if isinstance(thing, tuple):
                for inner in thing:
                    check(inner)
        for _, program in FORMS:
            check(collapse(program))
        check(collapse(parse("(rule sum (do (part 0) (usual)) (rule let (with 1) (let x 1 (sum x x))))")))


class SizeTest(FewCalls, CollapseTest):
    def test_each_part_and_built_in_way_stands_once(self):
        for text in (
            "(rule sum (sum (part 0) (sum (part 0) (sum (part 1) (usual)))) (sum 101 (sum 102 (sum 103 104))))",
            "(rule if (if (usual) (if (part 0) (part 1) (part 2)) (usual)) (if (if 101 102 103) 104 (if 105 106 107)))",
            "(rule say (do (sum (part 0) (sum (usual) (part 0)))) (say (say (say (say (say 101))))))",
            "(rule fn (call (fn x (usual)) (usual)) (call (fn x (fn y 101)) (fn z 102)))",
            "(rule let (sum (part 0) (usual)) (let x (let y (let z 101 102) 103) 104))",
        ):
            plain = collapse(parse(text))
            for number in range(101, 108):
                self.assertEqual(nodes_of(plain).count(("num", number)), text.count(str(number)), text)

    def test_at_most_400_times_as_many_nodes(self):
        rng = random.Random(19)
        tried = 0
        while tried < 700:
            program = Maker(rng, 1, False).program(rng.randrange(2, 7))
            if size(program)[0] <= 50 and is_within_the_promise(program):
                tried += 1
                self.assertLessEqual(plain_size(collapse(program)), 400 * size(program)[0])

    def test_the_largest_programs_that_must_have_a_collapse(self):
        for word, leaf in (("with", "(usual)"), ("with", "(part 0)")):
            for many, asks, says in ((14, 14, 15), (7, 7, 29), (29, 7, 7), (7, 29, 7), (1, 20, 22), (20, 20, 3)):
                text = (f"(rule let {'(with ' * many}{leaf}{')' * many}"
                        f" (rule say {'(do ' * asks}{leaf}{')' * asks}"
                        f" (let x 1 {'(say ' * says}x{')' * says})))")
                program = parse_of_any_depth(text)
                self.assertLessEqual(size(program)[0], 50)
                self.assertLessEqual(plain_size(collapse(program)), 400 * size(program)[0])

    def test_wide_programs_that_must_have_a_collapse(self):
        for kind, rule in (("num", "(sum (usual) (sum (usual) (sum (usual) (sum (usual) (usual)))))"),
                           ("sum", "(do (do (usual) (usual)) (do (part 0) (do (part 1) (usual))))"),
                           ("sum", "(sum (do (usual) (usual)) (do (part 0) (do (part 1) (usual))))")):
            program = parse(f"(rule {kind} {rule} {text_of_nodes(39)})")
            self.assertLessEqual(plain_size(collapse(program)), 20000)
            self.check_run(program, collapse(program), (0, 10, 30))

    def test_too_large(self):
        """Three copies of each let's body in another one: for two asks, and in the built-in way."""
        lets = nested(7, X, lambda e: ("let", "x", X, e))
        program = ("rule", "let", ("sum", ("with", ONE), ("sum", ("with", ONE), ("with", ONE))), ("fn", "x", lets))
        self.assertEqual(size(program), (25, 10))
        for _ in range(2):
            self.assertRaises(LimitError, collapse, program)
        self.assertEqual(run(program, 0), ((), ("value", ("fn", 0))))

    def test_rules_within_rules(self):
        """Each say of a level has all the says of the next one in it."""
        says = parse("(sum (say (say (say (say 1)))) (say (say (say (say 1)))))")
        program = ("rule", "say", ("rule", "say", ("rule", "say", says, says), says), says)
        self.assertEqual((size(program), height(program)), ((47, 9), 3))
        plain = collapse(program)
        self.assertLessEqual(plain_size(plain), 20000)
        self.check_run(program, plain, (0, 1, 10, 100))
        wide = nested(5, ONE, lambda e: ("sum", ("say", ("say", ("part", 0))), ("say", ("say", e))))
        program = ("rule", "say", ("rule", "say", ("rule", "say", wide, wide), wide), says)
        self.assertRaises(LimitError, collapse, program)

    def test_large_and_deep(self):
        """Nothing but LimitError is raised, also where a collapse is much deeper than its program."""
        found = {}
        for a in range(1, 6):
            for b in range(1, 6):
                for c in range(1, 7):
                    inner = nested(a, ("with", ("usual",)), lambda e: ("let", "x", ONE, e))
                    outer = nested(b, ("with", ONE), lambda e: ("let", "y", ONE, e))
                    program = nested(c, ONE, lambda e: ("let", "z", ONE, e))
                    program = ("rule", "let", ("rule", "let", inner, outer), program)
                    self.assertLessEqual(size(program)[0], 60)
                    try:
                        found[a, b, c] = plain_size(collapse(program))
                    except LimitError:
                        found[a, b, c] = None
        self.assertIsNone(found[5, 5, 6])
        self.assertIsNone(found[3, 3, 6])
        self.assertIsNotNone(found[3, 3, 1])
        self.assertLessEqual(max(many for many in found.values() if many is not None), 20000)

    def test_the_limit_is_20000_nodes(self):
        """With more and more nodes around a program with a large collapse, up to the limit and beyond."""
        rule = "(do (do (do (usual) (part 0)) (do (part 1) (usual))) (do (do (usual) (usual)) (do (usual) (part 0))))"
        rule = parse(f"(keep sum {rule})")[2]
        sizes = [plain_size(collapse(("rule", "sum", rule, sums_of(many)))) for many in (1, 2, 3)]
        growth = sizes[1] - sizes[0]
        self.assertEqual(sizes[2] - sizes[1], growth)
        many = 1 + (20000 - sizes[0]) // growth
        program = ("rule", "sum", rule, sums_of(many))
        nodes = sizes[0] + (many - 1) * growth
        self.assertEqual(plain_size(collapse(program)), nodes)
        self.assertRaises(LimitError, collapse, ("rule", "sum", rule, sums_of(many + 1)))
        program = nested(20000 - nodes, program, lambda e: ("fn", "x", e))
        self.assertEqual(plain_size(collapse(program)), 20000)
        self.assertRaises(LimitError, collapse, ("fn", "x", program))


def sums_of(many):
    """A shallow program of sums."""
    if many == 0:
        return ONE
    return ("sum", sums_of((many - 1) // 2), sums_of(many - 1 - (many - 1) // 2))


def parse_of_any_depth(text):
    """The program of a text, which may be deeper than the limit."""
    words = text.replace("(", " ( ").replace(")", " ) ").split()

    def expression():
        word = words.pop(0)
        if word != "(":
            return ("num", int(word)) if word.isdigit() else ("name", word)
        things = [words.pop(0)]
        while words[0] != ")":
            plain_word = (things[0] in ("let", "rule") and len(things) == 1) or things[0] == "part"
            things.append(words.pop(0) if plain_word else expression())
        words.pop(0)
        if things[0] == "part":
            return ("part", int(things[1]))
        return ("do", tuple(things[1:])) if things[0] == "do" else tuple(things)

    return expression()


if __name__ == "__main__":
    unittest.main()
