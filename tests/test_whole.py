"""A program, its text, its collapse and its code, side by side."""

import random
import unittest

from tests.examples import FORMS, FewCalls, random_program
from tests.reference import plainly_run
from tests.running import Maker
from ziggurat.collapsing import collapse
from ziggurat.compiler import compile_plain
from ziggurat.errors import LimitError
from ziggurat.forms import height, is_well_formed, size
from ziggurat.judge import is_collapse
from ziggurat.machine import run_code
from ziggurat.plain import plain_size, run_plain
from ziggurat.texts import parse, print_program
from ziggurat.tower import run

MORE = ("more",)

# A function that adds n ones, in 2 n + 2 steps where no rule is in force.
COUNT = "(fn f (fn n (if n (sum 1 (call (call f f) (sum n -1))) 0)))"

# One that calls itself for ever, and says something each time.
LOOP = "(fn w (sum (say 1) (call w w)))"


class WholeTest(unittest.TestCase):
    def whole(self, program):
        """The program in its several ways: what runs it with some fuel."""
        self.assertEqual(parse(print_program(program)), program)
        plain = collapse(program)
        self.assertLessEqual(plain_size(plain), 20000)
        self.assertIs(is_collapse(program, plain), True)
        code = compile_plain(plain)
        return (lambda fuel: run(program, fuel), lambda fuel: run_plain(plain, fuel),
                lambda fuel: run_code(code, fuel), lambda fuel: run(parse(print_program(program)), fuel))

    def check(self, program, fuels):
        """All run alike; returns the last run."""
        ways = self.whole(program)
        for fuel in fuels:
            found = ways[0](fuel)
            for way in ways[1:]:
                self.assertEqual(way(fuel), found, (print_program(program), fuel))
        return found

    def check_long(self, text, outputs, end, steps):
        """The program has this run with just enough fuel and with more, and not with one less."""
        ways = self.whole(parse(text))
        for way in ways:
            for fuel in (steps, steps + 1, 2000):
                self.assertEqual(way(fuel), (outputs, end), (text, fuel))
            found, found_end = way(steps - 1)
            self.assertEqual(found_end, MORE, text)
            self.assertEqual(found, outputs[:len(found)], text)
            self.assertEqual(way(0)[1], MORE)
        self.assertEqual(ways[0](steps - 1), ways[1](steps - 1))
        self.assertEqual(ways[0](steps - 1), ways[2](steps - 1))


class LongRunsTest(FewCalls, WholeTest):
    def test_calls_within_calls(self):
        for n, steps in ((0, 2), (1, 4), (500, 1002), (999, 2000)):
            self.check_long(f"(let f {COUNT} (call (call f f) {n}))", (), ("value", n), steps)

    def test_with_rules_in_force(self):
        """Each rule takes its steps for each of the sums, calls or ifs that it is about."""
        for rule, n, end, steps in (
            ("sum (do (part 0) (part 1))", 248, 248, 248 * 8 + 2),
            ("sum (usual)", 333, 333, 333 * 4 + 2),
            ("sum (sum (part 1) (part 0))", 333, 333, 333 * 6 + 2),
            ("if (if (part 0) (part 1) (part 2))", 333, 333, 333 * 4 + 4),
            ("call (usual)", 499, 499, 499 * 4 + 4),
            ("call (do (part 0) (part 1))", 249, 249, 249 * 8 + 8),
            ("num (usual)", 398, 398, 398 * 4 + 4),
            ("name (usual)", 332, 332, 332 * 6 + 5),
        ):
            self.check_long(f"(let f {COUNT} (rule {rule} (call (call f f) {n})))", (), ("value", end), steps)

    def test_rules_of_rules(self):
        text = (f"(let f {COUNT} (rule sum (rule sum (do (part 1) (part 0)) (sum (part 0) (part 1)))"
                " (call (call f f) 166)))")
        self.check_long(text, (), ("value", 166), 166 * 12 + 2)
        text = f"(let f {COUNT} (rule sum (rule say (usual) (say (usual))) (call (call f f) 10)))"
        self.check(parse(text), (0, 1, 2, 50, 62, 63, 100, 2000))

    def test_loops(self):
        for fuel in (0, 1, 2, 100, 1999, 2000):
            for way in self.whole(parse(f"(call {LOOP} {LOOP})")):
                self.assertEqual(way(fuel), (((0, 1),) * fuel, MORE))
            for way in self.whole(parse(f"(rule say (do (part 0)) (call {LOOP} {LOOP}))")):
                self.assertEqual(way(fuel), (((0, 1),) * ((fuel - 1) // 3 if fuel else 0), MORE))

    def test_outputs_of_a_long_run(self):
        text = "(let f (fn f (fn n (if (say n) (call (call f f) (sum n -1)) (fn x x)))) (call (call f f) 998))"
        self.check_long(text, tuple([(0, n) for n in range(998, -1, -1)]), ("value", ("fn", 0)), 1998)

    def test_a_long_run_that_gets_stuck(self):
        text = "(let f (fn f (fn n (if n (call (call f f) (sum n -1)) (sum f 1)))) (call (call f f) 998))"
        self.check_long(text, (), ("stuck", 0), 1998)
        text = f"(rule sum (sum (part 0) (if (part 1) (part 1) (fn x x))) (let f {COUNT} (call (call f f) 100)))"
        self.check(parse(text), (0, 100, 500, 2000))

    def test_changes_in_a_long_run(self):
        """keep in a loop: each call puts a rule that is asked for more."""
        text = ("(let f (fn f (fn n (if (less n 1) 0 (sum (if (less n 100) (keep sum (usual)) 0)"
                " (call (call f f) (sum n -1)))))) (call (call f f) 400))")
        self.check(parse(text), (0, 1, 500, 800, 801, 802, 1000, 1100, 1999, 2000))

    def test_large_numbers(self):
        text = "(let f (fn f (fn n (fn x (if n (call (call (call f f) (sum n -1)) (sum x x)) x)))) " \
               "(call (call (call f f) 600) 1))"
        self.check_long(text, (), ("value", 2 ** 600), 3 * 601)


class ManyTowersTest(WholeTest):
    def test_at_every_fuel(self):
        rng = random.Random(31)
        ends = {}
        tried = 0
        while tried < 250:
            program = Maker(rng).program(rng.randrange(2, 7))
            if size(program)[0] > 60 or size(program)[1] > 10 or height(program) > 3:
                continue
            tried += 1
            try:
                found = self.check(program, range(40))
            except LimitError:
                continue
            self.assertEqual(found, plainly_run(program, 39), print_program(program))
            ends[found[1][0]] = ends.get(found[1][0], 0) + 1
        self.assertGreater(min(ends["value"], ends["stuck"], ends["more"]), 10)

    def test_any_programs(self):
        rng = random.Random(32)
        tried = 0
        while tried < 300:
            program = random_program(rng, rng.randrange(1, 9))
            if size(program)[0] <= 60 and size(program)[1] <= 10 and height(program) <= 3:
                tried += 1
                self.check(program, range(10))

    def test_each_form(self):
        for text, program in FORMS:
            self.assertEqual(parse(text), program)
            self.check(program, (0, 1, 2, 10))

    def test_as_large_as_a_program_may_be(self):
        """60 nodes, a depth of 10, and the level 3."""
        text = ("(rule sum (rule sum (rule sum (sum (usual) (part 0)) (sum (part 1) (part 0)))"
                " (sum (part 0) (sum (part 1) (sum 1 (usual)))))"
                " (rule let (with (sum (part 0) (sum 1 2))) (rule less (if (less (part 0) (part 1)) 0 1)"
                " (rule say (do (sum (part 0) (sum (say 1) 1)))"
                " (let x (say 5) (let f (fn n (sum n (say x)))"
                " (if (less x 9) (call f (sum x 2)) (fn z (call z 1)))))))))")
        program = parse(text)
        self.assertEqual((size(program), height(program)), ((60, 10), 3))
        self.check(program, list(range(60)) + [100, 300, 1000, 1999, 2000])


class NothingIsKeptTest(WholeTest):
    def test_calls_of_other_functions_in_between(self):
        """No answer depends on what was called before, and nothing that was handed in is changed."""
        rng = random.Random(33)
        programs = [program for _, program in FORMS] + [Maker(rng).program(4) for _ in range(40)]
        programs = [program for program in programs if is_well_formed(program)]

        def answers(program):
            plain = collapse(program)
            code = compile_plain(plain)
            found = [run(program, 30), plain, plain_size(plain), run_plain(plain, 30), code, run_code(code, 30),
                     is_collapse(program, plain), is_collapse(program, ("num", 1)), size(program), height(program)]
            return found
        kept = repr(programs)
        first = [answers(program) for program in programs]
        again = [answers(program) for program in reversed(programs)]
        self.assertEqual(first, again[::-1])
        self.assertEqual(repr(programs), kept)


if __name__ == "__main__":
    unittest.main()
