import random
import unittest

from tests.examples import FORMS, FewCalls, random_program
from tests.reference import plainly_run
from tests.running import Maker
from ziggurat.forms import height, is_well_formed, size
from ziggurat.texts import parse, print_program
from ziggurat.tower import run

MORE = ("more",)


def value(shown):
    return ("value", shown)


def stuck(level):
    return ("stuck", level)


def zeroth(*things):
    """Outputs at the level 0."""
    return tuple([(0, thing) for thing in things])


class RunTest(unittest.TestCase):
    def check(self, text, outputs, end, steps=0):
        """The program has this run, with just enough fuel and with more; with less fuel it has a part of it."""
        program = parse(text)
        for fuel in (steps, steps + 1, steps + 7, 2000):
            self.assertEqual(run(program, fuel), (outputs, end), (text, fuel))
        for fuel in range(steps):
            found, found_end = run(program, fuel)
            self.assertEqual(found_end, MORE, (text, fuel))
            self.assertEqual(found, outputs[:len(found)], (text, fuel))


class BuiltInTest(RunTest):
    def test_num_and_name(self):
        self.check("7", (), value(7))
        self.check("-1000000", (), value(-1000000))
        self.check("(let x 3 x)", (), value(3))
        self.check("(let x 3 (let x 4 x))", (), value(4))
        self.check("(let x 3 (sum (let x 4 x) x))", (), value(7))

    def test_fn(self):
        self.check("(fn x x)", (), value(("fn", 0)))
        self.check("(fn x (call 1 (say 2)))", (), value(("fn", 0)))
        self.check("(let x 1 (let f (fn y (sum x y)) (let x 10 (call f 100))))", (), value(101), 1)
        self.check("(let f (fn x (fn y (sum x y)))"
                   " (let g (call f 1) (let h (call f 2) (sum (call g 10) (call h 20)))))", (), value(33), 4)

    def test_call(self):
        self.check("(call (fn x (sum x 1)) 2)", (), value(3), 1)
        self.check("(call (let z (say 1) (fn x (say x))) (say 2))", zeroth(1, 2, 2), value(2), 1)
        self.check("(call (fn f (call f (call f 1))) (fn x (sum x x)))", (), value(4), 3)

    def test_sum(self):
        self.check("(sum 2 (sum 3 -4))", (), value(1))
        self.check("(sum (say 1) (say 2))", zeroth(1, 2), value(3))

    def test_less(self):
        for a, b, found in ((1, 2, 1), (2, 2, 0), (3, 2, 0), (-2, -1, 1), (-1, -2, 0), (0, 0, 0)):
            self.check(f"(less {a} {b})", (), value(found))
        self.check("(less (say 1) (say 2))", zeroth(1, 2), value(1))
        self.assertIs(run(parse("(less 1 2)"), 0)[1][1].__class__, int)

    def test_if(self):
        self.check("(if 0 (say 1) (say 2))", zeroth(2), value(2))
        for condition in (1, -1, 1000000):
            self.check(f"(if {condition} (say 1) (say 2))", zeroth(1), value(1))
        self.check("(if (say 0) 1 (say 2))", zeroth(0, 2), value(2))
        self.check("(if (sum 2 -2) (call 1 1) (fn x x))", (), value(("fn", 0)))

    def test_let(self):
        self.check("(let x (say 3) (sum x (say x)))", zeroth(3, 3), value(6))
        self.check("(let x 1 (let x (sum x 1) (sum x x)))", (), value(4))

    def test_say(self):
        self.check("(say 1)", zeroth(1), value(1))
        self.check("(say (fn x x))", zeroth(("fn", 0)), value(("fn", 0)))
        self.check("(say (sum (say 1) (say (say 2))))", zeroth(1, 2, 2, 3), value(3))
        self.assertEqual(run(parse("(sum (say 1) (say -5))"), 0), (((0, 1), (0, -5)), ("value", -4)))

    def test_integers_of_any_size(self):
        text = "(let w (fn w (fn n (fn x (if n (call (call (call w w) (sum n -1)) (sum x x)) x))))" \
               "(call (call (call w w) 100) 1))"
        self.check(text, (), value(2 ** 100), 303)


class RuleTest(RunTest):
    def test_each_kind_under_a_rule_without_asks(self):
        for kind, text, end in (
            ("num", "(sum 1 2)", 18), ("name", "(let x 1 (sum x (sum x 2)))", 20), ("fn", "(sum (fn x x) 1)", 10),
            ("call", "(sum 1 (call 1 (say 2)))", 10), ("sum", "(less 8 (sum (say 1) (say 2)))", 1),
            ("less", "(sum 1 (less (say 1) 2))", 10), ("if", "(sum 1 (if (say 0) (say 1) (say 2)))", 10),
            ("let", "(sum 1 (let x (say 1) x))", 10), ("say", "(sum 1 (say (say 1)))", 10),
        ):
            self.check(f"(rule {kind} 9 {text})", (), value(end))
            # the expressions of the next level are evaluated by other rules
            self.check(f"(rule {kind} (say (sum (let x 2 x) 7)) {text})", ((1, 9),) * (2 if end in (18, 20) else 1),
                       value(end))

    def test_usual_for_each_kind(self):
        for kind, text, outputs, end, steps in (
            ("num", "(sum 1 2)", (), 3, 2),
            ("name", "(let x 1 (sum x x))", (), 2, 2),
            ("fn", "(fn x x)", (), ("fn", 0), 1),
            ("call", "(call (fn x (sum x 1)) (say 1))", zeroth(1), 2, 2),
            ("sum", "(sum (say 1) (say 2))", zeroth(1, 2), 3, 1),
            ("less", "(less (say 1) (say 2))", zeroth(1, 2), 1, 1),
            ("if", "(if (say 0) (say 1) (say 2))", zeroth(0, 2), 2, 1),
            ("let", "(let x (say 1) (say x))", zeroth(1, 1), 1, 1),
            ("say", "(say 4)", zeroth(4), 4, 1),
        ):
            self.check(f"(rule {kind} (usual) {text})", outputs, value(end), steps)
            times = 2 if kind in ("num", "name") else 1
            self.check(f"(rule {kind} (let y (usual) 5) {text})", outputs, value(5 * times), steps)

    def test_usual_evaluates_parts_and_bodies_by_the_rules_in_force(self):
        self.check("(rule sum (say (usual)) (sum 1 (sum 2 3)))", ((1, 5), (1, 6)), value(6), 2)
        self.check("(rule let (say (usual)) (let x 1 (let y 2 (sum x y))))", ((1, 3), (1, 3)), value(3), 2)
        self.check("(rule num 5 (rule sum (usual) (sum 1 2)))", (), value(10), 1)
        self.check("(rule fn (usual) (call (fn x (fn y x)) 1))", (), value(("fn", 0)), 3)

    def test_parts(self):
        for kind, text, found in (
            ("call", "(call (let z (say 1) (fn x x)) (say 2))", (("fn", 0), 2)),
            ("sum", "(sum (say 1) (say 2))", (1, 2)), ("less", "(less (say 1) (say 2))", (1, 2)),
            ("if", "(if (say 1) (say 2) (say 3))", (1, 2, 3)), ("let", "(let x (say 1) (say 2))", (1,)),
            ("say", "(say (sum 0 (let x 1 x)))", (1,)),
        ):
            for i, shown in enumerate(found):
                outputs = zeroth(shown if isinstance(shown, int) else 1) if kind != "say" else ()
                self.check(f"(rule {kind} (part {i}) {text})", outputs, value(shown), 1)

    def test_parts_are_evaluated_each_time_anew_and_in_any_order(self):
        self.check("(rule sum (sum (part 1) (sum (part 0) (part 1))) (sum (say 1) (say 2)))",
                   zeroth(2, 1, 2), value(5), 3)
        self.check("(rule if (if (part 0) (part 2) (part 1)) (if (say 0) (say 1) (say 2)))", zeroth(0, 1), value(1), 2)
        self.check("(rule sum 0 (sum (say 1) (say 2)))", (), value(0))

    def test_parts_have_the_names_of_the_expression(self):
        self.check("(let x 1 (rule sum (let x 100 (sum x (part 0))) (let x 2 (sum x 5))))", (), value(102), 1)
        self.check("(rule let (let x 100 (with (sum x (part 0)))) (let x 1 (let y x (sum x y))))", (), value(302), 4)

    def test_do(self):
        self.check("(rule sum (do 10 20) (sum (say 1) 2))", (), value(30), 1)
        self.check("(rule less (do 2 1) (less 1 (say 2)))", (), value(0), 1)
        self.check("(rule less (do (part 1) (part 0)) (less 2 1))", (), value(1), 3)
        self.check("(rule say (do 5) (say (say 1)))", zeroth(5), value(5), 1)
        self.check("(rule say (do (sum (part 0) 1)) (say (say 1)))", zeroth(2, 3), value(3), 4)
        self.check("(rule call (do (part 0) 7) (call (fn x (sum x 1)) (say 0)))", (), value(8), 3)
        self.check("(rule sum (do (say 1) (say 2)) (sum 3 4))", ((1, 1), (1, 2)), value(3), 1)
        self.check("(rule sum (do (do 1 2) (do 3 (usual))) (sum 4 5))", (), value(15), 4)

    def test_a_do_of_a_call_takes_two_steps(self):
        text = "(rule call (do (let f (part 0) f) (say 2)) (call (fn x (say x)) 1))"
        self.check(text, ((1, 2), (0, 2)), value(2), 3)
        program = parse(text)
        self.assertEqual(run(program, 0), ((), MORE))
        self.assertEqual(run(program, 1), (((1, 2),), MORE))
        self.assertEqual(run(program, 2), (((1, 2),), MORE))

    def test_with(self):
        self.check("(rule let (with 5) (let x (say 1) (sum x x)))", (), value(10), 1)
        self.check("(rule let (sum (with 1) (with 2)) (let x 9 (say (sum x x))))", zeroth(2, 4), value(6), 2)
        self.check("(rule let (with (with 3)) (let x 0 (sum x x)))", (), value(12), 2)
        self.check("(rule let (with (sum (part 0) 1)) (let x 5 (let y 6 (sum x y))))", (), value(13), 4)
        self.check("(let x 1 (rule let (with 2) (sum (let y 0 (sum x y)) (let x 0 x))))", (), value(5), 2)

    def test_rules_are_set_back_when_the_body_ends(self):
        self.check("(sum (rule num 5 1) 1)", (), value(6))
        self.check("(rule num 5 (sum (rule num 6 1) 1))", (), value(11))
        self.check("(let x (rule sum 5 (sum 1 1)) (sum x 1))", (), value(6))

    def test_rules_of_other_kinds_and_levels_stay_as_they_are(self):
        self.check("(rule num 5 (rule name 6 (let x 1 (sum x 1))))", (), value(11))
        self.check("(rule num (sum 1 1) (sum 1 1))", (), value(4))
        self.check("(rule sum (sum 1 1) (sum 5 5))", (), value(2))

    def test_the_rule_around_is_in_force_where_a_function_is_called(self):
        self.check("(let f (rule num 5 (fn x (sum x 1))) (call f 2))", (), value(3), 1)
        self.check("(let f (fn x (sum x 1)) (rule num 5 (call f 2)))", (), value(10), 1)


class KeepTest(RunTest):
    def test_it_goes_on(self):
        self.check("(keep num 5)", (), value(0))
        self.check("(sum 1 (keep num 5))", (), value(1))
        self.check("(sum (keep num 5) (sum 1 2))", (), value(10))
        self.check("(let k (keep num 5) (sum k 2))", (), value(5))
        self.check("(let f (fn x (keep num 5)) (sum 1 (sum (call f 1) (sum 1 1))))", (), value(11), 1)
        self.check("(let a (keep num 5) (let b (keep num 6) 1))", (), value(6))

    def test_up_to_the_end_of_a_body_for_this_kind_and_level(self):
        self.check("(sum (rule num 5 (sum (keep num 6) 1)) 1)", (), value(7))
        self.check("(rule num 4 (sum (rule num 5 (sum (keep num 6) 1)) 1))", (), value(10))
        self.check("(rule num 4 (sum (rule num 5 2) (sum (keep num 6) (rule num 7 3))))", (), value(12))
        self.check("(sum (keep num 3) (sum (rule num 5 (keep num 6)) 1))", (), value(3))

    def test_not_of_another_kind(self):
        self.check("(sum (rule sum (usual) (sum (keep num 6) 1)) 1)", (), value(12), 1)

    def test_not_of_another_level(self):
        self.check("(rule num (sum (keep num 50) 1) (sum 1 2))", (), value(100))
        self.check("(sum (rule num (sum (keep num 50) 1) 3) (rule num 7 4))", (), value(100))
        self.check("(rule num (sum (rule num 50 1) 2) (sum 1 2))", (), value(104))

    def test_a_rule_within_the_body_of_a_function_that_is_called_in_a_rule(self):
        self.check("(let f (fn x (keep num 6)) (sum (rule num 5 (sum (call f 1) 1)) 1))", (), value(7), 1)


class LevelsTest(RunTest):
    def test_rules_within_rules(self):
        self.check("(rule num (rule num (rule num 4 3) 2) 1)", (), value(4))
        self.check("(say (rule num (say (rule num (say (rule num (say 4) 3)) 2)) 1))",
                   ((3, 4), (2, 4), (1, 4), (0, 4)), value(4))

    def test_asks_are_about_the_expression_of_the_level_below(self):
        self.check("(rule sum (rule num (sum (usual) 10) (sum (part 0) 1)) (sum 5 6))", (), value(16), 2)
        self.check("(rule sum (rule sum (do (part 1) (usual)) (sum (part 0) (part 1))) (sum (say 1) (say 20)))",
                   zeroth(20, 1, 20), value(41), 6)
        self.check("(rule let (rule let (with (say (part 0))) (let y (part 0) (with (sum y y)))) (let x 1 (sum x x)))",
                   ((2, 1),), value(4), 4)

    def test_a_do_of_a_level_above(self):
        self.check("(rule num (rule say (do (say 7)) (say 5)) (sum 1 2))",
                   ((2, 7), (1, 7), (2, 7), (1, 7)), value(14), 2)

    def test_each_kind_at_the_level_1(self):
        for kind, text, end in (
            ("num", "5", value(5)), ("name", "(let x 1 x)", value(1)), ("fn", "(fn x x)", stuck(2)),
            ("call", "(call 1 2)", stuck(1)), ("sum", "(sum 1 2)", value(3)), ("less", "(less 1 2)", value(1)),
            ("if", "(if 0 1 2)", value(2)), ("let", "(let x 1 x)", value(1)), ("say", "(say 1)", value(1)),
        ):
            self.check(f"(rule less (rule {kind} 9 {text}) (less 1 2))", (), value(9))
            outputs = ((1, 1),) if kind == "say" else ()
            self.check(f"(rule less (rule {kind} (sum (usual) 0) {text}) (less 1 2))", outputs, end, 1)

    def test_an_ask_about_an_expression_whose_rule_was_changed_meanwhile(self):
        self.check("(rule sum (sum (part 0) (usual)) (sum (keep sum 5) 7))", (), value(7), 2)
        self.check("(rule num 3 (rule sum (sum (part 1) (usual)) (sum (keep num 100) 1)))", (), value(103), 2)
        self.check("(rule sum (sum (part 0) (part 1)) (sum (keep sum 5) (sum 1 2)))", (), value(5), 2)
        self.check("(rule let (sum (part 0) (with 1)) (let x (keep let 50) (let y 2 x)))", (), value(50), 2)
        self.check("(rule say (sum (part 0) (do 3)) (say (keep say 50)))", zeroth(3), value(3), 2)

    def test_a_rule_that_changes_the_rule_that_is_evaluated(self):
        self.check("(rule num (sum (keep num (sum (usual) 5)) 1) (sum 1 2))", (), value(12), 2)


class FunctionsTest(RunTest):
    def test_levels_of_functions(self):
        self.check("(rule num (fn x x) 1)", (), value(("fn", 1)))
        self.check("(say (rule num (rule num (fn x x) 1) 1))", zeroth(("fn", 2)), value(("fn", 2)))
        self.check("(rule fn (say (usual)) (fn x x))", ((1, ("fn", 0)),), value(("fn", 0)), 1)
        self.check("(rule say (do (fn x x)) (say 1))", zeroth(("fn", 1)), value(("fn", 1)), 1)
        self.check("(rule let (with (fn x x)) (let f 1 f))", (), value(("fn", 1)), 1)

    def test_about(self):
        """A function of a rule is called from another rule, and asks about what the first one was about."""
        self.check("(rule sum (fn x (part 0)) (let f (sum (say 3) 4) (rule call (call (part 0) (part 1)) (call f 0))))",
                   zeroth(3), value(3), 4)
        self.check("(let y 5 (rule sum (fn x (part 0)) (let f (sum y 4) (let y 6"
                   " (rule call (call (part 0) (part 1)) (call f 0))))))", (), value(5), 4)
        self.check("(rule let (call (fn f (call f (call f 1))) (fn y (with y))) (let x 0 (sum x x)))", (), value(4), 5)
        self.check("(rule sum (fn x (usual)) (let f (sum 1 2) (rule sum 50 (rule call (call (part 0) 0) (call f 1)))))",
                   (), value(3), 3)

    def test_names(self):
        self.check("(rule sum (let z (part 1) (fn x (sum x z)))"
                   " (let f (sum 1 2) (rule call (call (part 0) (part 1)) (call f 10))))", (), value(12), 4)

    def test_a_do_of_a_call_is_at_the_level_of_the_expression(self):
        self.check("(rule call (sum (do (part 0) 3) (do (part 0) 4)) (call (fn x (say x)) 1))",
                   zeroth(3, 4), value(7), 6)


class StuckTest(RunTest):
    def test_at_the_level_0(self):
        self.check("(sum (fn x x) 1)", (), stuck(0))
        self.check("(sum 1 (fn x x))", (), stuck(0))
        self.check("(sum (fn x x) (say 1))", zeroth(1), stuck(0))
        self.check("(less (fn x x) (say 1))", zeroth(1), stuck(0))
        self.check("(less 1 (fn x x))", (), stuck(0))
        self.check("(if (fn x x) (say 1) (say 2))", (), stuck(0))
        self.check("(call 1 (say 2))", zeroth(2), stuck(0))
        self.check("(say (sum (say 1) (sum 1 (fn x x))))", zeroth(1), stuck(0))

    def test_in_rules(self):
        for text in ("(sum (fn x x) 1)", "(sum 1 (fn x x))", "(less (fn x x) 1)", "(less 1 (fn x x))",
                     "(if (fn x x) 1 2)", "(call 1 2)"):
            self.check(f"(say (rule num {text} 5))", (), stuck(1))
            self.check(f"(say (rule num (say (rule num {text} 5)) 5))", (), stuck(2))
            self.check(f"(say (rule num (say (rule num (rule num {text} 5) 5)) 5))", (), stuck(3))

    def test_by_a_do(self):
        self.check("(rule sum (do (fn x x) 1) (sum 1 2))", (), stuck(0), 1)
        self.check("(rule sum (do 1 (fn x x)) (sum 1 2))", (), stuck(0), 1)
        self.check("(rule less (do (fn x x) 1) (less 1 2))", (), stuck(0), 1)
        self.check("(rule less (do 1 (fn x x)) (less 1 2))", (), stuck(0), 1)
        self.check("(rule call (do 1 (say 2)) (call 1 2))", ((1, 2),), stuck(0), 1)
        self.check("(rule num (rule sum (do (fn x x) 1) (sum 1 2)) 5)", (), stuck(1), 1)
        self.check("(rule num (rule call (do 1 2) (call 1 2)) 5)", (), stuck(1), 1)

    def test_by_usual(self):
        self.check("(rule sum (usual) (sum 1 (fn x x)))", (), stuck(0), 1)
        self.check("(rule if (usual) (if (fn x x) 1 2))", (), stuck(0), 1)
        self.check("(rule call (usual) (call 1 2))", (), stuck(0), 1)

    def test_functions_of_other_levels(self):
        self.check("(rule sum (fn x x) (call (sum 1 2) 3))", (), stuck(0))
        self.check("(rule call (call (part 0) (part 1)) (call (fn x x) (say 3)))", zeroth(3), stuck(1), 2)
        self.check("(rule call (do (fn x x) 1) (call 1 2))", (), stuck(0), 1)
        self.check("(rule let (with (fn x x)) (let f 1 (call f 2)))", (), stuck(0), 1)
        self.check("(rule num (rule num (fn x x) (call 1 (fn x x))) 7)", (), stuck(1))

    def test_what_is_called_is_looked_at_before_the_step(self):
        self.assertEqual(run(parse("(call 1 2)"), 0), ((), stuck(0)))
        self.assertEqual(run(parse("(call (fn x x) 2)"), 0), ((), MORE))
        self.assertEqual(run(parse("(rule call (do 1 2) (call 1 2))"), 0), ((), MORE))
        self.assertEqual(run(parse("(rule call (do 1 2) (call 1 2))"), 1), ((), stuck(0)))
        self.assertEqual(run(parse("(call (call (fn x x) (say 1)) (say 2))"), 1), (zeroth(1, 2), stuck(0)))


class FuelTest(FewCalls, RunTest):
    def test_asks_begin_with_their_step(self):
        for text, found in (
            ("(rule sum (part 0) (sum (say 1) 2))", ()), ("(rule sum (usual) (sum (say 1) 2))", ()),
            ("(rule say (do (say 1)) (say 5))", ((1, 1),)), ("(rule let (with (say 1)) (let x 0 (say x)))", ((1, 1),)),
            ("(rule sum (do (say 1) (say 2)) (sum 1 2))", ((1, 1), (1, 2))),
        ):
            self.assertEqual(run(parse(text), 0), (found, MORE), text)
            self.assertNotEqual(run(parse(text), 1)[1], MORE, text)

    def test_without_end(self):
        program = parse("(let w (fn w (let z (say 1) (call w w))) (call w w))")
        for fuel in (0, 1, 2, 3, 100, 2000):
            self.assertEqual(run(program, fuel), (zeroth(1) * fuel, MORE))

    def test_calls_within_calls(self):
        self.check("(let f (fn f (fn n (if n (sum 1 (call (call f f) (sum n -1))) 0))) (call (call f f) 20))",
                   (), value(20), 42)
        program = parse("(let f (fn f (fn n (if n (sum 1 (call (call f f) (sum n -1))) 0))) (call (call f f) 999))")
        self.assertEqual(run(program, 2000), ((), value(999)))
        self.assertEqual(run(program, 1999), ((), MORE))
        for text in ("(let w (fn w (sum 1 (call w w))) (call w w))",
                     "(rule sum (sum (usual) (part 0)) (let w (fn w (sum 1 (call w w))) (call w w)))",
                     "(rule call (sum (do (part 0) (part 1)) 1) (let w (fn w (sum 1 (call w w))) (call w w)))",
                     "(let w (fn w (rule num (sum 1 (usual)) (sum 1 (call w w)))) (call w w))"):
            self.assertEqual(run(parse(text), 2000), ((), MORE), text)

    def test_calls_as_deep_as_the_fuel_allows_that_come_back(self):
        text = "(let f (fn f (fn n (if n (sum 1 (call (call f f) (sum n -1))) 0))) (call (call f f) 6000))"
        self.assertEqual(run(parse(text), 12002), ((), value(6000)))

    def test_values_within_values(self):
        """Functions that keep functions, as deep as the fuel allows."""
        text = "(let g (fn w (fn f (call (call w w) (fn x (sum 1 (call f x)))))) (call (call g g) (fn x x)))"
        self.assertEqual(run(parse(text), 2000), ((), MORE))


class ManyProgramsTest(RunTest):
    def test_against_plain_words(self):
        rng = random.Random(8)
        ends = {}
        for _ in range(1500):
            program = Maker(rng).program(rng.randrange(2, 6))
            self.assertTrue(is_well_formed(program))
            for fuel in (0, 1, 2, 3, 4, 5, 7, 10, 15, 30, 60):
                found = run(program, fuel)
                self.assertEqual(found, plainly_run(program, fuel), (print_program(program), fuel))
            place = (found[1][0], height(program))
            ends[place] = ends.get(place, 0) + 1
        for end in ("value", "stuck", "more"):
            for level in range(3):
                self.assertGreater(ends[end, level], 3, (end, level))

    def test_any_programs_against_plain_words(self):
        rng = random.Random(9)
        for _ in range(1500):
            program = random_program(rng, rng.randrange(1, 8))
            if size(program)[0] <= 60:
                for fuel in (0, 1, 2, 5, 20):
                    self.assertEqual(run(program, fuel), plainly_run(program, fuel), (print_program(program), fuel))

    def test_more_fuel_goes_on(self):
        rng = random.Random(10)
        for _ in range(300):
            program = Maker(rng).program(5)
            before = run(program, 0)
            for fuel in range(1, 40):
                found = run(program, fuel)
                self.assertEqual(found[0][:len(before[0])], before[0])
                if before[1] != MORE:
                    self.assertEqual(found, before)
                before = found

    def test_same_answer_again_and_nothing_is_modified(self):
        for _, program in FORMS:
            if is_well_formed(program):
                kept = repr(program)
                found = run(program, 50)
                run(parse("(sum (keep num 1) (keep sum 2))"), 50)
                self.assertEqual(run(program, 50), found)
                self.assertEqual(repr(program), kept)

    def test_kinds_of_values(self):
        found = run(parse("(rule sum (say (fn x x)) (less 1 (let z (sum 1 2) (say 3))))"), 10)
        self.assertEqual(found, (((1, ("fn", 1)), (0, 3)), ("value", 1)))
        self.assertIs(found.__class__, tuple)
        self.assertIs(found[0].__class__, tuple)
        self.assertIs(found[0][0].__class__, tuple)
        self.assertIs(found[1].__class__, tuple)


if __name__ == "__main__":
    unittest.main()
