import random
import unittest

from tests import test_plain
from tests.reference import plainly_run_plain
from tests.test_plain import ONE, TWO, X, random_plain, row, say, stuck, value, zeroth
from ziggurat.compiler import compile_plain
from ziggurat.machine import run_code
from ziggurat.plain import run_plain

MORE = ("more",)


class Compiled:
    """Has the tests of run_plain done with the machine."""

    def runs(self, plain, fuel):
        return run_code(compile_plain(plain), fuel)


class FormsTest(Compiled, test_plain.FormsTest):
    pass


class DelayTest(Compiled, test_plain.DelayTest):
    pass


class SwitchTest(Compiled, test_plain.SwitchTest):
    pass


class StuckTest(Compiled, test_plain.StuckTest):
    pass


class DepthTest(Compiled, test_plain.DepthTest):
    pass


class FramesTest(Compiled, test_plain.PlainTest):
    """What functions and delayed expressions find in the frames around them."""

    def test_each_call_has_a_frame_of_its_own(self):
        add = ("fn", 0, "x", ("fn", 0, "y", ("sum", 0, X, ("name", "y"))))
        self.check(("let", "f", add, ("let", "g", ("call", 0, ("name", "f"), ONE), (
            "let", "h", ("call", 0, ("name", "f"), ("num", 100)), (
                "sum", 0, ("call", 0, ("name", "g"), TWO), ("call", 0, ("name", "h"), TWO))))), (), value(105), 4)

    def test_lets_in_a_function_that_is_called_again(self):
        again = ("call", 0, ("call", 0, ("name", "f"), ("name", "f")), ("sum", 0, ("name", "n"), ("num", -1)))
        body = ("let", "a", ("name", "n"), ("let", "b", again, ("sum", 0, ("name", "a"), ("name", "b"))))
        count = ("fn", 0, "f", ("fn", 0, "n", ("if", 0, ("name", "n"), body, ("num", 0))))
        self.check(("let", "f", count, ("call", 0, ("call", 0, ("name", "f"), ("name", "f")), ("num", 5))),
                   (), value(15), 12)

    def test_functions_keep_what_is_bound_one_after_the_other(self):
        keep = [("let", "x", ("num", n), ("fn", 0, "y", ("say", 0, X))) for n in (1, 2, 3)]
        names = [("name", name) for name in "abc"]
        calls = row(*[("call", 0, name, ONE) for name in names])
        for name, function in zip("cba", reversed(keep)):
            calls = ("let", name, function, calls)
        self.check(calls, zeroth(1, 2, 3), value(3), 3)

    def test_lets_in_what_is_forced_several_times(self):
        """A function that was made in one evaluation keeps the names of it."""
        later = ("let", "x", ("switch", 1, ((1, ONE),), TWO), ("fn", 0, "y", ("say", 0, X)))
        force = ("force", "d")
        self.check(("delay", "d", later, ("let", "f", force, ("let", "g", ("set", 1, 1, force), row(
            ("call", 0, ("name", "f"), ONE), ("call", 0, ("name", "g"), ONE), ("call", 0, ("name", "f"), ONE))))),
            zeroth(2, 1, 2), value(2), 3)

    def test_forces_in_functions_within_functions(self):
        """Each function finds what was delayed in the call in which it was made."""
        made = ("fn", 0, "x", ("delay", "d", ("say", 0, X), ("fn", 0, "y", ("fn", 0, "z", ("sum", 0, ("force", "d"), (
            "sum", 0, ("name", "y"), ("name", "z")))))))
        self.check(("let", "f", made, ("let", "g", ("call", 0, ("call", 0, ("name", "f"), ONE), ("num", 10)), (
            "let", "h", ("call", 0, ("call", 0, ("name", "f"), TWO), ("num", 20)), (
                "sum", 0, ("call", 0, ("name", "h"), ("num", 100)), ("call", 0, ("name", "g"), ("num", 200)))))),
            zeroth(2, 1), value(333), 6)

    def test_sets_within_calls_and_forces(self):
        which = ("switch", 1, ((1, say(1)), (2, say(2))), say(0))
        function = ("fn", 0, "x", ("set", 1, 2, row(which, X)))
        self.check(row(("set", 1, 1, row(which, ("call", 0, function, which), which)), which),
                   zeroth(1, 1, 2, 1, 0), value(0), 1)
        self.check(("delay", "d", ("set", 1, 2, which), row(("set", 1, 1, row(("force", "d"), which)), which)),
                   zeroth(2, 1, 0), value(0))

    def test_a_jump_over_everything(self):
        for condition, wanted in ((ONE, 11), (("num", 0), 21)):
            branches = [row(say(n), ("if", 0, ONE, ("let", "x", ("num", n), ("sum", 0, X, ONE)), TWO))
                        for n in (10, 20)]
            self.check(("sum", 0, ("if", 0, condition, *branches), ("num", 0)), zeroth(wanted - 1), value(wanted))

    def test_stuck_deep_within_calls(self):
        function = ("fn", 0, "x", ("sum", 0, ONE, ("less", 2, say(4), X)))
        self.check(("sum", 1, ("call", 0, function, ("fn", 3, "y", ONE)), say(5)), zeroth(4), stuck(2), 1)


class ManyProgramsTest(unittest.TestCase):
    def test_against_plain_words(self):
        rng = random.Random(21)
        ends = {}
        for _ in range(2500):
            plain = random_plain(rng, rng.randrange(2, 8))
            code = compile_plain(plain)
            for fuel in (0, 1, 2, 3, 5, 8, 20):
                found = run_code(code, fuel)
                self.assertEqual(found, plainly_run_plain(plain, fuel), (plain, fuel))
                self.assertEqual(found, run_plain(plain, fuel), (plain, fuel))
            ends[found[1][0]] = ends.get(found[1][0], 0) + 1
        self.assertGreater(min(ends["value"], ends["stuck"], ends["more"]), 100)

    def test_same_answer_again_and_nothing_is_modified(self):
        rng = random.Random(22)
        for _ in range(300):
            code = compile_plain(random_plain(rng, 6))
            kept = repr(code)
            found = run_code(code, 20)
            run_code(compile_plain(("put", 0, 1)), 0)
            run_code(compile_plain(("put", 1, 2)), 0)
            self.assertEqual(run_code(code, 20), found)
            self.assertEqual(repr(code), kept)

    def test_kinds_of_values(self):
        for plain, found in ((("less", 0, ONE, TWO), 1), (("less", 0, TWO, ONE), 0), (("put", 1, 1), 0)):
            outputs, end = run_code(compile_plain(("say", 0, plain)), 0)
            self.assertEqual((outputs, end), (((0, found),), ("value", found)))
            self.assertIs(type(outputs), tuple)
            self.assertIs(type(end[1]), int)
            self.assertIs(type(outputs[0][1]), int)
        self.assertEqual(run_code(compile_plain(("tick", ONE)), 0), ((), MORE))


if __name__ == "__main__":
    unittest.main()
