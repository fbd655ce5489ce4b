import random
import unittest

from tests.examples import FewCalls, nested
from tests.reference import plainly_run_plain
from ziggurat.plain import plain_size, run_plain

MORE = ("more",)
ONE = ("num", 1)
TWO = ("num", 2)
X = ("name", "x")
D = ("force", "d")
FN = ("fn", 0, "x", X)

# One expression of each form, with its number of nodes.
SIZES = (
    (ONE, 1), (X, 1), (("force", "d"), 1), (("put", 4, 1), 1), (("fn", 0, "x", X), 2), (("say", 2, ONE), 2),
    (("tick", ONE), 2), (("set", 4, 1, ONE), 2), (("switch", 4, (), ONE), 2), (("call", 1, ONE, X), 3),
    (("sum", 0, ONE, TWO), 3), (("less", 0, ONE, TWO), 3), (("if", 0, ONE, TWO, X), 4), (("let", "x", ONE, X), 3),
    (("delay", "d", ONE, D), 3), (("switch", 4, ((1, ONE),), TWO), 3),
    (("switch", 4, ((1, ("say", 0, ONE)), (7, ("sum", 0, ONE, TWO)), (3, X)), ("tick", ONE)), 9),
)


def say(n, level=0):
    return ("say", level, ("num", n))


def row(*expressions):
    """The expressions one after the other, with the value of the last one."""
    *before, last = expressions
    for expression in reversed(before):
        last = ("let", "", expression, last)
    return last


def value(shown):
    return ("value", shown)


def stuck(level):
    return ("stuck", level)


def zeroth(*things):
    return tuple([(0, thing) for thing in things])


class PlainTest(unittest.TestCase):
    def runs(self, plain, fuel):
        """The run of a plain program; the tests of the machine put another one here."""
        return run_plain(plain, fuel)

    def check(self, plain, outputs, end, steps=0):
        """The plain program has this run, with just enough fuel and with more; with less fuel a part of it."""
        for fuel in (steps, steps + 1, steps + 7, 2000):
            self.assertEqual(self.runs(plain, fuel), (outputs, end), (plain, fuel))
        for fuel in range(steps):
            found, found_end = self.runs(plain, fuel)
            self.assertEqual(found_end, MORE, (plain, fuel))
            self.assertEqual(found, outputs[:len(found)], (plain, fuel))


class FormsTest(PlainTest):
    def test_num_and_name(self):
        self.check(("num", -3), (), value(-3))
        self.check(("num", 10 ** 50), (), value(10 ** 50))
        self.check(("let", "x", TWO, X), (), value(2))
        self.check(("let", "x", ONE, ("let", "x", TWO, X)), (), value(2))
        self.check(("let", "x", ONE, ("sum", 0, ("let", "x", TWO, X), X)), (), value(3))

    def test_any_strings_are_names(self):
        for name in ("", " ", "num", "let", "x" * 1000, "\n", "\u00e9", "(", "0", "d", "delay"):
            self.check(("let", name, TWO, ("sum", 0, ("name", name), ("name", name))), (), value(4))
            self.check(("delay", name, TWO, ("sum", 0, ("force", name), ("force", name))), (), value(4))
            self.check(("call", 0, ("fn", 0, name, ("name", name)), TWO), (), value(2), 1)

    def test_fn_and_call(self):
        self.check(("fn", 5, "x", ("name", "y")), (), value(("fn", 5)))
        self.check(("call", 3, ("fn", 3, "x", ("say", 1, X)), say(7)), ((0, 7), (1, 7)), value(7), 1)
        self.check(("call", 0, row(say(1), FN), say(2)), zeroth(1, 2), value(2), 1)
        self.check(("let", "x", ONE, ("let", "f", ("fn", 0, "y", ("sum", 0, X, ("name", "y"))),
                                      ("let", "x", ("num", 50), ("call", 0, ("name", "f"), X)))), (), value(51), 1)

    def test_sum_less_if(self):
        self.check(("sum", 0, say(1), say(2)), zeroth(1, 2), value(3))
        self.check(("less", 0, say(1), say(2)), zeroth(1, 2), value(1))
        self.check(("less", 0, TWO, TWO), (), value(0))
        self.check(("less", 0, TWO, ONE), (), value(0))
        self.check(("if", 0, say(0), say(1), say(2)), zeroth(0, 2), value(2))
        self.check(("if", 0, say(-1), say(1), say(2)), zeroth(-1, 1), value(1))
        self.assertIs(self.runs(("less", 0, ONE, TWO), 0)[1][1].__class__, int)

    def test_say(self):
        self.check(("say", 4, ("say", 2, ("num", 9))), ((2, 9), (4, 9)), value(9))
        self.check(("say", 4, ("fn", 7, "x", X)), ((4, ("fn", 7)),), value(("fn", 7)))

    def test_tick(self):
        self.check(("tick", say(1)), zeroth(1), value(1), 1)
        self.check(("sum", 0, say(1), ("tick", ("tick", say(2)))), zeroth(1, 2), value(3), 2)
        self.assertEqual(self.runs(("tick", say(1)), 0), ((), MORE))

    def test_calls_are_steps(self):
        loop = ("fn", 0, "w", row(say(1), ("call", 0, ("name", "w"), ("name", "w"))))
        for fuel in (0, 1, 2, 50, 2000):
            self.assertEqual(self.runs(("call", 0, loop, loop), fuel), (zeroth(1) * fuel, MORE))

    def test_unbound_names_where_nothing_is_evaluated(self):
        self.check(("if", 0, ONE, TWO, X), (), value(2))
        self.check(("if", 0, ("num", 0), D, TWO), (), value(2))
        self.check(("fn", 0, "y", X), (), value(("fn", 0)))
        self.check(("delay", "d", X, ONE), (), value(1))
        self.check(("delay", "d", ("sum", 0, X, D), ONE), (), value(1))
        self.check(("switch", 1, ((1, X), (2, D)), ONE), (), value(1))
        self.check(("set", 1, 1, ("switch", 1, ((1, ONE),), X)), (), value(1))
        self.check(("sum", 0, ("call", 0, ONE, TWO), X), (), stuck(0))


class DelayTest(PlainTest):
    def test_how_often(self):
        self.check(("delay", "d", say(1), TWO), (), value(2))
        self.check(("delay", "d", say(1), D), zeroth(1), value(1))
        self.check(("delay", "d", say(1), ("sum", 0, D, ("sum", 0, D, D))), zeroth(1, 1, 1), value(3))

    def test_each_time_anew(self):
        self.check(("delay", "d", ("switch", 1, ((1, say(1)),), say(0)), row(D, ("put", 1, 1), D)),
                   zeroth(0, 1), value(1))
        self.check(("delay", "d", ("tick", say(1)), row(D, D)), zeroth(1, 1), value(1), 2)

    def test_names_where_it_is_delayed(self):
        self.check(("let", "x", ONE, ("delay", "d", X, ("let", "x", TWO, D))), (), value(1))
        self.check(("let", "x", ONE, ("delay", "d", ("sum", 0, X, X), ("call", 0, ("fn", 0, "x", D), ("num", 9)))),
                   (), value(2), 1)

    def test_within_other_delays(self):
        self.check(("delay", "c", say(1), ("delay", "d", ("sum", 0, ("force", "c"), ("force", "c")),
                                           ("sum", 0, D, D))), zeroth(1, 1, 1, 1), value(4))
        self.check(("delay", "d", ("delay", "c", say(1), ("force", "c")), ("delay", "c", say(2), D)),
                   zeroth(1), value(1))

    def test_in_functions_that_are_called_elsewhere(self):
        made = ("let", "x", ONE, ("delay", "d", ("say", 0, X), ("fn", 0, "y", ("sum", 0, D, ("name", "y")))))
        self.check(("let", "f", made, ("delay", "d", say(5), ("let", "x", TWO, ("call", 0, ("name", "f"), X)))),
                   zeroth(1), value(3), 1)
        self.check(("let", "f", ("delay", "d", ("delay", "c", say(3), ("fn", 0, "y", ("force", "c"))), D),
                    ("call", 0, ("name", "f"), ONE)), zeroth(3), value(3), 1)

    def test_the_innermost_counts(self):
        self.check(("delay", "d", say(1), ("delay", "d", say(2), D)), zeroth(2), value(2))
        self.check(("delay", "d", say(1), ("sum", 0, ("delay", "d", say(2), D), D)), zeroth(2, 1), value(3))

    def test_what_is_delayed_is_not_within_its_own_delay(self):
        self.check(("delay", "d", say(1), ("delay", "d", ("sum", 0, D, D), D)), zeroth(1, 1), value(2))

    def test_delayed_and_other_names_are_apart(self):
        self.check(("let", "d", ONE, ("delay", "d", TWO, ("sum", 0, ("name", "d"), ("name", "d")))), (), value(2))
        self.check(("delay", "d", TWO, ("let", "d", ONE, ("sum", 0, D, D))), (), value(4))
        self.check(("delay", "d", TWO, ("call", 0, ("fn", 0, "d", ("sum", 0, D, ("name", "d"))), ONE)), (), value(3), 1)


class SwitchTest(PlainTest):
    def test_without_branches(self):
        self.check(("switch", 1, (), say(1)), zeroth(1), value(1))
        self.check(("set", 1, 1, ("switch", 1, (), say(1))), zeroth(1), value(1))

    def test_branches_in_any_order(self):
        branches = ((3, say(3)), (1, say(1)), (200, say(200)), (2, say(2)))
        for number in (1, 2, 3, 200):
            self.check(("set", 0, number, ("switch", 0, branches, say(9))), zeroth(number), value(number))
            self.check(row(("put", 0, number), ("switch", 0, branches, say(9))), zeroth(number), value(number))
        for number in (0, 4, 199):
            self.check(("set", 0, number, ("switch", 0, branches, say(9))), zeroth(9), value(9))
        self.check(("switch", 0, branches, say(9)), zeroth(9), value(9))

    def test_switches_are_apart(self):
        self.check(("set", 1, 1, ("switch", 2, ((1, ONE),), TWO)), (), value(2))
        self.check(("set", 1, 1, ("set", 2, 2, ("switch", 1, ((1, ONE), (2, TWO)), X))), (), value(1))
        self.check(("set", 10 ** 9, 10 ** 9, ("switch", 10 ** 9, ((10 ** 9, ONE),), TWO)), (), value(1))

    def test_set_within_set(self):
        which = ("switch", 1, ((1, say(1)), (2, say(2))), say(0))
        self.check(row(("set", 1, 1, row(which, ("set", 1, 2, which), which)), which), zeroth(1, 2, 1, 0), value(0))
        self.check(row(("set", 1, 1, ("set", 1, 0, which)), which), zeroth(0, 0), value(0))
        self.check(("set", 1, 2, ONE), (), value(1))

    def test_put(self):
        which = ("switch", 1, ((1, say(1)), (2, say(2))), say(0))
        self.check(("put", 1, 7), (), value(0))
        self.check(row(("put", 1, 1), which, ("put", 1, 2), which, ("put", 1, 0), which), zeroth(1, 2, 0), value(0))

    def test_put_within_set(self):
        which = ("switch", 1, ((1, say(1)), (2, say(2))), say(0))
        self.check(row(("set", 1, 1, row(("put", 1, 2), which)), which), zeroth(2, 0), value(0))
        self.check(row(("put", 1, 2), ("set", 1, 1, row(which, ("put", 1, 0), which)), which),
                   zeroth(1, 0, 2), value(2))
        self.check(row(("set", 2, 5, ("put", 1, 2)), which), zeroth(2), value(2))

    def test_a_run_that_ends_within_a_set(self):
        self.check(("set", 1, 1, ("sum", 0, FN, say(1))), zeroth(1), stuck(0))
        self.check(("sum", 0, ("set", 1, 1, ("tick", say(1))), say(2)), zeroth(1, 2), value(3), 1)
        self.check(("switch", 1, ((1, ONE),), TWO), (), value(2))

    def test_functions_see_the_switch_where_they_are_called(self):
        which = ("switch", 1, ((1, say(1)),), say(0))
        self.check(("let", "f", ("set", 1, 1, ("fn", 0, "x", which)), ("call", 0, ("name", "f"), ONE)),
                   zeroth(0), value(0), 1)
        self.check(("let", "f", ("fn", 0, "x", which), ("set", 1, 1, ("call", 0, ("name", "f"), ONE))),
                   zeroth(1), value(1), 1)


class StuckTest(PlainTest):
    def test_levels_are_those_of_the_expressions(self):
        for k in (0, 1, 2, 7):
            function = ("fn", k, "x", X)
            self.check(("sum", k, function, say(1)), zeroth(1), stuck(k))
            self.check(("sum", k, say(1), function), zeroth(1), stuck(k))
            self.check(("less", k, function, say(1)), zeroth(1), stuck(k))
            self.check(("less", k, say(1), function), zeroth(1), stuck(k))
            self.check(("if", k, function, say(1), say(2)), (), stuck(k))
            self.check(("call", k, ONE, say(2)), zeroth(2), stuck(k))
            self.check(("call", k + 1, function, say(2)), zeroth(2), stuck(k + 1))
            self.check(("say", 0, ("sum", 0, ("call", k, ("fn", k + 1, "x", X), say(2)), say(3))), zeroth(2), stuck(k))
            self.check(("call", k, function, say(2)), zeroth(2), value(2), 1)

    def test_the_function_is_looked_at_before_the_step(self):
        self.assertEqual(self.runs(("call", 0, ONE, say(2)), 0), (zeroth(2), stuck(0)))
        self.assertEqual(self.runs(("call", 0, ("fn", 1, "x", X), say(2)), 0), (zeroth(2), stuck(0)))
        self.assertEqual(self.runs(("call", 0, FN, say(2)), 0), (zeroth(2), MORE))
        self.assertEqual(self.runs(("call", 0, FN, ("tick", ONE)), 1), ((), MORE))


class DepthTest(FewCalls, PlainTest):
    def test_20000_nodes_within_one_another(self):
        for wrap, end in (
            (lambda e: ("tick", e), 1), (lambda e: ("set", 1, 1, e), 1), (lambda e: ("switch", 1, (), e), 1),
            (lambda e: ("fn", 0, "x", e), ("fn", 0)),
        ):
            plain = nested(19999, ONE, wrap)
            self.assertEqual(plain_size(plain), 20000)
            self.assertEqual(self.runs(plain, 20000), ((), value(end)))
        plain = nested(19999, ONE, lambda e: ("say", 3, e))
        self.assertEqual(self.runs(plain, 0), (((3, 1),) * 19999, value(1)))

    def test_two_expressions_in_each(self):
        for wrap, end in (
            (lambda e: ("sum", 0, e, ONE), 10000), (lambda e: ("sum", 0, ONE, e), 10000),
            (lambda e: ("less", 0, e, ("num", -1)), 0), (lambda e: ("let", "x", ONE, e), 1),
            (lambda e: ("let", "x", e, X), 1), (lambda e: ("delay", "d", e, D), 1),
            (lambda e: ("delay", "d", ONE, e), 1), (lambda e: ("delay", "d", D, e), 1),
            (lambda e: ("call", 0, FN, e), 1), (lambda e: ("switch", 1, ((1, e),), TWO), 2),
        ):
            plain = nested(9999, ONE, wrap)
            self.assertIn(plain_size(plain), (19999, 29998))
            self.assertEqual(self.runs(plain, 20000), ((), value(end)))
        plain = nested(9999, ONE, lambda e: ("switch", 1, ((1, e),), TWO))
        self.assertEqual(self.runs(("set", 1, 1, plain), 0), ((), value(1)))

    def test_delays_that_force_one_another(self):
        plain = ("delay", "d", say(7), nested(9998, D, lambda e: ("delay", "d", D, e)))
        self.check(plain, zeroth(7), value(7))

    def test_names_and_functions_far_around(self):
        plain = ("let", "x", TWO, nested(9000, X, lambda e: ("let", "y", ("fn", 0, "z", X), e)))
        self.check(plain, (), value(2))

    def test_calls_2000_deep(self):
        again = ("call", 0, ("call", 0, ("name", "f"), ("name", "f")), ("sum", 0, ("name", "n"), ("num", -1)))
        count = ("fn", 0, "f", ("fn", 0, "n", ("if", 0, ("name", "n"), ("sum", 0, ONE, again), ("num", 0))))
        for n in (0, 1, 999):
            plain = ("let", "f", count, ("call", 0, ("call", 0, ("name", "f"), ("name", "f")), ("num", n)))
            self.assertEqual(self.runs(plain, 2 * n + 2), ((), value(n)))
            self.assertEqual(self.runs(plain, 2 * n + 1), ((), MORE))
        loop = ("fn", 0, "w", ("sum", 0, ONE, ("set", 1, 1, ("call", 0, ("name", "w"), ("name", "w")))))
        self.assertEqual(self.runs(("call", 0, loop, loop), 2000), ((), MORE))

    def test_many_expressions_between_two_steps(self):
        plain = ("force", "d16")
        for k in range(16, 0, -1):
            inner = ("force", f"d{k - 1}")
            plain = ("delay", f"d{k}", ("sum", 0, inner, inner), plain)
        self.check(("delay", "d0", ONE, plain), (), value(2 ** 16))


class SizeTest(unittest.TestCase):
    def test_each_form(self):
        for plain, nodes in SIZES:
            self.assertEqual(plain_size(plain), nodes, plain)
            self.assertEqual(plain_size(("sum", 0, plain, ("say", 1, plain))), 2 * nodes + 2)
            self.assertEqual(plain_size(("switch", 1, ((1, plain), (2, ONE)), plain)), 2 * nodes + 2)


def random_plain(rng, depth, names=(), delays=()):
    """A random plain expression with names from few spellings, most of them bound."""
    if depth <= 1 or rng.random() < 0.1:
        choices = [("num", rng.choice([-1, 0, 1, 2])), ("put", rng.randrange(3), rng.randrange(3))]
        choices.extend([("name", name) for name in names] + [("force", name) for name in delays])
        return rng.choice(choices)

    def inner(more=(), later=()):
        return random_plain(rng, depth - 1, names + more, delays + later)

    level = rng.choice([0, 0, 0, 1])
    name = rng.choice(["a", "b", ""])
    word = rng.choice(["fn", "call", "call", "sum", "less", "if", "let", "let", "say", "say", "delay", "delay", "delay",
                       "tick", "switch", "switch", "set", "loop"])
    if word == "fn":
        return ("fn", level, name, inner((name,)))
    if word in ("let", "delay"):
        return (word, name, inner(), inner((name,)) if word == "let" else inner((), (name,)))
    if word == "tick":
        return ("tick", inner())
    if word == "set":
        return ("set", rng.randrange(3), rng.randrange(3), inner())
    if word == "switch":
        numbers = rng.sample([1, 2, 3], rng.randrange(4))
        return ("switch", rng.randrange(3), tuple([(number, inner()) for number in numbers]), inner())
    if word == "call" and rng.random() < 0.7:
        return ("call", level, ("fn", level, name, inner((name,))), inner())
    if word == "loop":
        again = ("call", level, ("name", name), ("name", name))
        return ("call", level, ("fn", level, name, again), ("fn", level, name, ("sum", 0, inner((name,)), again)))
    return (word, level) + tuple([inner() for _ in range({"if": 3, "say": 1}.get(word, 2))])


class ManyProgramsTest(unittest.TestCase):
    def test_against_plain_words(self):
        rng = random.Random(15)
        ends = {}
        for _ in range(3000):
            plain = random_plain(rng, rng.randrange(2, 8))
            for fuel in (0, 1, 2, 3, 5, 8, 20):
                found = run_plain(plain, fuel)
                self.assertEqual(found, plainly_run_plain(plain, fuel), (plain, fuel))
            ends[found[1][0]] = ends.get(found[1][0], 0) + 1
        self.assertGreater(min(ends["value"], ends["stuck"], ends["more"]), 100)

    def test_same_answer_again_and_nothing_is_modified(self):
        rng = random.Random(16)
        for _ in range(300):
            plain = random_plain(rng, 6)
            kept = repr(plain)
            found, nodes = run_plain(plain, 20), plain_size(plain)
            run_plain(("put", 0, 1), 0)
            run_plain(("put", 1, 2), 0)
            self.assertEqual((run_plain(plain, 20), plain_size(plain)), (found, nodes))
            self.assertEqual(repr(plain), kept)


if __name__ == "__main__":
    unittest.main()
