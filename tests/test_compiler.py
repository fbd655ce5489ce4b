import random
import unittest

from tests.disguise import Disguise, plain_tuples
from tests.examples import FORMS, FewCalls, nested
from tests.reference import nodes_of
from tests.running import Maker
from tests.test_plain import random_plain
from ziggurat.collapsing import collapse
from ziggurat.compiler import compile_plain
from ziggurat.machine import run_code
from ziggurat.plain import plain_size, run_plain

ONE = ("num", 1)
TWO = ("num", 2)
X = ("name", "x")
Y = ("name", "y")
D = ("force", "d")


def words_of(code):
    return {instruction[0] for _, instructions in code for instruction in instructions}


class CodeTest(unittest.TestCase):
    def check_form(self, code):
        """A tuple of blocks, pairs of a number of slots and a tuple of instructions of integers."""
        self.assertIs(type(code), tuple)
        self.assertGreater(len(code), 0)
        for block in code:
            self.assertIs(type(block), tuple)
            slots, instructions = block
            self.assertIs(type(slots), int)
            self.assertGreaterEqual(slots, 0)
            self.assertIs(type(instructions), tuple)
            for instruction in instructions:
                self.assertIs(type(instruction), tuple)
                self.assertIs(type(instruction[0]), str)
                self.check_integers(instruction[1:])

    def check_integers(self, thing):
        if type(thing) is tuple:
            for inner in thing:
                self.check_integers(inner)
        else:
            self.assertIs(type(thing), int)

    def test_each_form(self):
        for plain in (ONE, ("num", -7), ("num", 10 ** 50), X, ("fn", 3, "x", X), ("call", 0, ONE, TWO),
                      ("sum", 1, ONE, TWO), ("less", 2, ONE, TWO), ("if", 3, ONE, TWO, X), ("let", "x", ONE, X),
                      ("say", 4, ONE), ("delay", "d", ONE, D), D, ("tick", ONE), ("switch", 5, (), ONE),
                      ("switch", 5, ((2, ONE), (1, TWO)), X), ("set", 6, 7, ONE), ("put", 8, 9)):
            self.check_form(compile_plain(plain))
            self.check_form(compile_plain(("fn", 0, "y", ("delay", "d", plain, ("sum", 0, D, D)))))

    def test_many_programs(self):
        rng = random.Random(211)
        words = {}
        for _ in range(500):
            code = compile_plain(random_plain(rng, rng.randrange(1, 8)))
            self.check_form(code)
            words.update({word: True for word in words_of(code)})
        for _, program in FORMS:
            code = compile_plain(collapse(program))
            self.check_form(code)
            words.update({word: True for word in words_of(code)})
        self.assertLess(len(words), 25)

    def test_no_names_in_the_code(self):
        """Neither in what is compiled nor in words that are made of names."""
        for name in ("curious", "x", "num", "0", ""):
            plain = ("delay", name, ("sum", 0, ONE, ("name", name)),
                     ("let", name, ("fn", 0, name, ("name", name)), ("force", name)))
            self.assertEqual(compile_plain(plain), compile_plain((
                "delay", "e", ("sum", 0, ONE, ("name", "z")), ("let", "y", ("fn", 0, "x", X), ("force", "e")))))

    def test_same_code_with_other_names(self):
        x, z = ("name", "x"), ("name", "z")
        for first, second in (
            (("let", "x", ONE, X), ("let", "y", ONE, Y)),
            (("fn", 0, "x", ("fn", 0, "y", ("sum", 0, x, Y))), ("fn", 0, "y", ("fn", 0, "x", ("sum", 0, Y, X)))),
            (("fn", 0, "x", ("fn", 0, "y", Y)), ("fn", 0, "x", ("fn", 0, "x", X))),
            (("let", "x", ONE, ("let", "y", X, Y)), ("let", "x", ONE, ("let", "x", X, X))),
            (("delay", "d", ONE, ("let", "d", ONE, ("sum", 0, D, ("name", "d")))),
             ("delay", "d", ONE, ("let", "x", ONE, ("sum", 0, D, X)))),
            (("delay", "d", ONE, ("delay", "d", D, D)), ("delay", "d", ONE, ("delay", "e", D, ("force", "e")))),
            (("let", "x", ONE, ("delay", "d", X, ("let", "x", TWO, ("sum", 0, D, X)))),
             ("let", "x", ONE, ("delay", "d", X, ("let", "z", TWO, ("sum", 0, D, z))))),
            (("if", 0, ONE, TWO, X), ("if", 0, ONE, TWO, Y)),
            (("if", 0, ONE, TWO, D), ("if", 0, ONE, TWO, ("force", ""))),
        ):
            self.assertEqual(compile_plain(first), compile_plain(second), (first, second))

    def test_other_code_where_names_lead_elsewhere(self):
        for first, second in (
            (("fn", 0, "x", ("fn", 0, "y", X)), ("fn", 0, "x", ("fn", 0, "x", X))),
            (("let", "x", ONE, ("let", "y", TWO, X)), ("let", "x", ONE, ("let", "y", TWO, Y))),
            (("delay", "d", ONE, ("delay", "e", TWO, D)), ("delay", "d", ONE, ("delay", "e", TWO, ("force", "e")))),
        ):
            self.assertNotEqual(compile_plain(first), compile_plain(second), (first, second))

    def test_same_code_of_many_programs_with_other_names(self):
        rng = random.Random(212)
        for _ in range(300):
            disguise = Disguise(rng)
            plain = random_plain(rng, rng.randrange(1, 8))
            # First all names are made different, so that new ones lead to the same.
            plain = disguise.rename(plain, Fresh())
            renamed = disguise.rename(plain, Fresh())
            self.assertEqual(compile_plain(plain_tuples(renamed)), compile_plain(plain_tuples(plain)))
        for _ in range(100):
            disguise = Disguise(rng)
            plain = collapse(Maker(rng).program(4))
            renamed = disguise.rename(plain, Fresh())
            self.assertEqual(compile_plain(plain_tuples(renamed)), compile_plain(plain))

    def test_same_answer_again_and_nothing_is_modified(self):
        rng = random.Random(213)
        for _ in range(200):
            plain = random_plain(rng, 6)
            kept = repr(plain)
            code = compile_plain(plain)
            self.assertEqual(compile_plain(plain), code)
            self.assertEqual(repr(plain), kept)


class Fresh(list):
    """A pool of names from which none is chosen twice."""

    def __len__(self):
        return 1

    def __getitem__(self, at):
        self.append(None)
        return f"{'other' if list.__len__(self) % 2 else ''}{list.__len__(self)}"


class DepthTest(FewCalls, unittest.TestCase):
    def check(self, plain, end):
        self.assertLessEqual(plain_size(plain), 20000)
        code = compile_plain(plain)
        self.assertEqual(run_code(code, 20000), run_plain(plain, 20000))
        self.assertEqual(run_code(code, 20000), ((), ("value", end)))

    def test_one_expression_in_each(self):
        self.check(nested(19999, ONE, lambda e: ("tick", e)), 1)
        self.check(nested(19999, ONE, lambda e: ("set", 1, 1, e)), 1)
        self.check(nested(19999, ONE, lambda e: ("switch", 1, (), e)), 1)
        self.check(nested(19999, ONE, lambda e: ("fn", 3, "x", e)), ("fn", 3))
        code = compile_plain(nested(19999, ONE, lambda e: ("say", 3, e)))
        self.assertEqual(run_code(code, 0), (((3, 1),) * 19999, ("value", 1)))

    def test_several_expressions_in_each(self):
        for wrap, end in (
            (lambda e: ("sum", 0, e, ONE), 10000), (lambda e: ("sum", 0, ONE, e), 10000),
            (lambda e: ("less", 0, e, ("num", -1)), 0), (lambda e: ("let", "x", ONE, e), 1),
            (lambda e: ("let", "x", e, X), 1), (lambda e: ("delay", "d", e, D), 1),
            (lambda e: ("delay", "d", ONE, e), 1), (lambda e: ("delay", "d", D, e), 1),
        ):
            self.check(nested(9999, ONE, wrap), end)
        for wrap, end in (
            (lambda e: ("call", 0, ("fn", 0, "x", X), e), 1), (lambda e: ("call", 0, ("fn", 0, "x", e), ONE), 1),
            (lambda e: ("switch", 1, ((1, e),), TWO), 2), (lambda e: ("switch", 1, ((1, TWO),), e), 1),
            (lambda e: ("if", 0, ONE, e, TWO), 1), (lambda e: ("if", 0, ("num", 0), TWO, e), 1),
            (lambda e: ("if", 0, e, ONE, TWO), 1),
        ):
            self.check(nested(6666, ONE, wrap), end)
        self.check(("set", 1, 1, nested(6666, ONE, lambda e: ("switch", 1, ((1, e),), TWO))), 1)

    def test_wide_switches(self):
        branches = tuple([(n, ("num", n)) for n in range(1, 19000)])
        code = compile_plain(("switch", 5, branches, ("num", 0)))
        self.assertEqual(run_code(code, 0), ((), ("value", 0)))
        for n in (1, 2, 18999, 19000):
            code = compile_plain(("set", 5, n, ("switch", 5, branches, ("num", 0))))
            self.assertEqual(run_code(code, 0), ((), ("value", n if n < 19000 else 0)))

    def test_names_and_delays_far_around(self):
        plain = ("let", "x", TWO, ("delay", "d", X, nested(
            4000, ("sum", 0, X, D), lambda e: ("call", 0, ("fn", 0, "y", e), ONE))))
        self.check(plain, 4)
        plain = ("let", "x", TWO, ("delay", "d", X, nested(6000, ("sum", 0, X, D), lambda e: ("let", "y", ONE, e))))
        self.check(plain, 4)
        self.assertEqual(len(nodes_of(plain)), plain_size(plain))


if __name__ == "__main__":
    unittest.main()
