import random
import unittest

from tests.disguise import Disguise, at_path, mutant, paths_of, plain_tuples, put_at
from tests.examples import FORMS, KINDS, FewCalls, nested, random_program
from tests.reference import Expansion, nodes_of, plainly_is_collapse
from tests.running import Maker
from ziggurat.collapsing import collapse
from ziggurat.errors import LimitError
from ziggurat.forms import height, size
from ziggurat.judge import is_collapse
from ziggurat.plain import plain_size, run_plain
from ziggurat.texts import parse
from ziggurat.tower import run

ONE = ("num", 1)
TWO = ("num", 2)
X = ("name", "x")
Y = ("name", "y")
D = ("force", "d")


class JudgeTest(unittest.TestCase):
    def accept(self, text, *plains):
        """These are collapses, and run as the program does."""
        program = parse(text)
        for plain in plains:
            self.assertIs(is_collapse(program, plain), True, (text, plain))
            for fuel in (0, 1, 2, 3, 5, 10, 100):
                self.assertEqual(run_plain(plain, fuel), run(program, fuel), (text, plain))

    def refuse(self, text, *plains):
        program = parse(text)
        for plain in plains:
            self.assertIs(is_collapse(program, plain), False, (text, plain))

    def refuse_alike(self, text, *plains):
        """These are no collapses, although they run as the program does."""
        self.refuse(text, *plains)
        program = parse(text)
        for plain in plains:
            for fuel in (0, 1, 2, 3, 5, 10, 100):
                self.assertEqual(run_plain(plain, fuel), run(program, fuel), (text, plain))


class BuiltInTest(JudgeTest):
    def test_num(self):
        self.accept("7", ("num", 7))
        self.refuse("7", ("num", 8), ("num", -7), ("name", "7"), ("say", 0, ("num", 7)))
        self.refuse_alike("7", ("sum", 0, ("num", 3), ("num", 4)), ("let", "x", ("num", 7), X),
                          ("switch", 0, (), ("num", 7)), ("delay", "d", ONE, ("num", 7)), ("delay", "d", ("num", 7), D),
                          ("set", 0, 0, ("num", 7)), ("set", 5, 1, ("num", 7)))
        self.refuse("7", ("tick", ("num", 7)))

    def test_fn(self):
        self.accept("(fn x x)", ("fn", 0, "x", X), ("fn", 0, "", ("name", "")), ("fn", 0, "num", ("name", "num")),
                    ("fn", 0, "a name\n", ("name", "a name\n")))
        self.refuse("(fn x x)", ("fn", 1, "x", X), ("fn", 0, "x", ONE), ("let", "x", ONE, X))
        self.refuse_alike("(fn x x)", ("fn", 0, "x", Y), ("fn", 0, "x", ("force", "x")), ("fn", 0, "x", ONE))

    def test_operations(self):
        for word in ("call", "sum", "less"):
            text = f"({word} 1 2)"
            self.accept(text, (word, 0, ONE, TWO))
            self.refuse(text, (word, 1, ONE, TWO), (word, 0, ONE, ONE), (word, 0, TWO, ONE), (word, 0, TWO, TWO))
            others = [other for other in ("call", "sum", "less") if other != word]
            self.refuse(text, *[(other, 0, ONE, TWO) for other in others])
        self.refuse_alike("(sum 1 2)", ("sum", 0, TWO, ONE), ("num", 3), ("sum", 5, ONE, TWO),
                          ("let", "x", ONE, ("sum", 0, X, TWO)))
        self.accept("(say 1)", ("say", 0, ONE))
        self.refuse("(say 1)", ("say", 1, ONE), ("say", 0, TWO), ONE)
        self.refuse_alike("(say 1)", ("let", "x", ONE, ("say", 0, X)), ("let", "x", ("say", 0, ONE), X))

    def test_if(self):
        self.accept("(if 0 1 2)", ("if", 0, ("num", 0), ONE, TWO))
        self.refuse("(if 0 1 2)", ("if", 0, ("num", 0), TWO, ONE), ("if", 0, ONE, ONE, TWO))
        self.refuse_alike("(if 0 1 2)", ("if", 1, ("num", 0), ONE, TWO), ("if", 0, ("num", 0), TWO, TWO), TWO)

    def test_let_and_names(self):
        self.accept("(let x 1 x)", ("let", "x", ONE, X), ("let", "y", ONE, Y))
        self.refuse_alike("(let x 1 x)", ("let", "x", ONE, ONE), ONE, ("let", "x", ("let", "x", ONE, X), X))
        self.refuse("(let x 1 x)", ("let", "x", ONE, Y), ("let", "x", TWO, X), ("delay", "x", ONE, X))
        text = "(let x 1 (let y 1 (sum x (sum y x))))"

        def lets(a, b, names):
            names = [("name", name) for name in names]
            return ("let", a, ONE, ("let", b, ONE, ("sum", 0, names[0], ("sum", 0, names[1], names[2]))))
        self.accept(text, lets("x", "y", "xyx"), lets("y", "x", "yxy"), lets("a", "b", "aba"))
        self.refuse_alike(text, lets("x", "y", "xyy"), lets("x", "y", "yyx"), lets("x", "y", "xxx"),
                          lets("x", "x", "xxx"))

    def test_the_same_name_again(self):
        self.accept("(let x 1 (let y (sum x x) y))",
                    ("let", "x", ONE, ("let", "x", ("sum", 0, X, X), X)))
        self.accept("(let x 1 (let y 2 y))", ("let", "x", ONE, ("let", "x", TWO, X)))
        self.refuse("(let x 1 (let y 2 x))", ("let", "x", ONE, ("let", "x", TWO, X)))
        self.refuse_alike("(let x 1 (let y 1 x))", ("let", "x", ONE, ("let", "x", ONE, X)))
        self.accept("(let x 1 (let x 2 (sum x x)))", ("let", "y", ONE, ("let", "x", TWO, ("sum", 0, X, X))))
        self.refuse("(let x 1 (let x 2 (sum x x)))", ("let", "y", ONE, ("let", "x", TWO, ("sum", 0, X, Y))))
        self.accept("(fn x (fn y (sum x y)))", ("fn", 0, "y", ("fn", 0, "x", ("sum", 0, Y, X))))
        self.refuse_alike("(fn x (fn y (sum x y)))", ("fn", 0, "x", ("fn", 0, "x", ("sum", 0, X, X))),
                          ("fn", 0, "x", ("fn", 0, "y", ("sum", 0, Y, X))))

    def test_names_are_not_bound_outside_of_bodies(self):
        text = "(let x 1 (sum (let y 2 y) x))"
        self.accept(text, ("let", "x", ONE, ("sum", 0, ("let", "x", TWO, X), X)))
        self.refuse(text, ("let", "x", ONE, ("sum", 0, ("let", "y", TWO, Y), Y)))
        self.refuse("(let x 1 (let y x y))", ("let", "x", ONE, ("let", "y", Y, Y)))

    def test_rule_and_keep(self):
        self.accept("(rule sum 1 2)", ("set", 4, 1, TWO))
        self.refuse_alike("(rule sum 1 2)", TWO, ("set", 4, 0, TWO), ("set", 4, 2, TWO), ("set", 5, 1, TWO),
                          ("set", 13, 1, TWO), ("let", "x", ("put", 4, 1), TWO), ("set", 4, 1, ("set", 4, 1, TWO)))
        self.accept("(keep sum 1)", ("put", 4, 1))
        self.refuse_alike("(keep sum 1)", ("put", 4, 0), ("put", 4, 2), ("put", 3, 1), ("num", 0),
                          ("set", 4, 1, ("num", 0)))


class SwitchTest(JudgeTest):
    def test_a_switch_for_each_kind(self):
        """With the number of the kind at the level 0, around a rule that has the one of the level 1."""
        x = ("switch", 1, ((1, ("put", 9, 2)),), X)
        for number, (text, plain) in enumerate((
            ("5", ("num", 5)), ("(fn x x)", ("fn", 0, "x", x)), ("(fn x (say 1))", ("fn", 0, "x", ("say", 0, ONE))),
            ("(call 1 2)", ("call", 0, ONE, TWO)), ("(sum 1 2)", ("sum", 0, ONE, TWO)),
            ("(less 1 2)", ("less", 0, ONE, TWO)), ("(if 1 2 5)", ("if", 0, ONE, TWO, ("num", 5))),
            ("(let x 1 (say 2))", ("let", "x", ONE, ("say", 0, TWO))), ("(say 1)", ("say", 0, ONE)),
        )):
            text = f"(rule {KINDS[number]} (keep num 3) {text})"
            made = plain if number == 1 else ("switch", number, ((1, ("put", 9, 2)),), plain)
            self.accept(text, ("set", number, 1, made))
            self.refuse(text, ("set", number, 1, plain if number != 1 else ("fn", 0, "x", X)))
            for other in (number + 9, (number + 1) - 2 * (number == 8)):
                self.refuse(text, ("set", number, 1, ("switch", other, ((1, ("put", 9, 2)),), plain)))

    def test_branches(self):
        text = "(sum (keep num 5) (sum (keep num 6) (sum (keep less 7) (keep num 8))))"

        def made(switch):
            return ("sum", 0, ("put", 0, 1), ("sum", 0, ("put", 0, 2), ("sum", 0, ("put", 5, 3), switch)))
        self.accept(text, made(("put", 0, 4)))
        text = "(sum (keep num 5) (sum (keep num 6) (sum (keep less 7) 1)))"
        five, six, seven = (1, ("num", 5)), (2, ("num", 6)), (3, ("num", 7))
        self.accept(text, made(("switch", 0, (five, six), ONE)))
        self.refuse_alike(text, made(("switch", 0, (six, five), ONE)), made(("switch", 0, (six,), ONE)),
                          made(("switch", 0, (five, six, seven), ONE)), made(("switch", 0, (five, six), TWO)),
                          made(("num", 6)), made(("switch", 0, (five, six), ("num", 6))))
        self.refuse(text, made(("switch", 0, (five,), ONE)), made(("switch", 0, (), ONE)), made(ONE),
                    made(("switch", 5, (five, six), ONE)), made(("switch", 9, (five, six), ONE)),
                    made(("switch", 0, ((1, six[1]), (2, five[1])), ONE)),
                    made(("switch", 0, ((1, five[1]), (3, six[1])), ONE)),
                    made(("tick", ("switch", 0, (five, six), ONE))))

    def test_branches_of_rules_that_are_never_in_force(self):
        text = "(sum 1 (if 0 (keep sum 5) 2))"
        last = ("sum", 0, ONE, ("if", 0, ("num", 0), ("put", 4, 1), TWO))
        self.accept(text, ("switch", 4, ((1, ("num", 5)),), last))
        self.refuse_alike(text, last, ("switch", 4, (), last), ("switch", 4, ((1, ("num", 6)),), last))

    def test_no_switch_without_rules_of_the_level_and_kind(self):
        text = "(rule num (rule sum 7 (say 5)) (sum 1 2))"
        rule = ("set", 13, 2, ("say", 1, ("num", 5)))
        one, two = [("switch", 0, ((1, rule),), ("num", n)) for n in (1, 2)]
        self.accept(text, ("set", 0, 1, ("sum", 0, one, two)))
        self.refuse_alike(text, ("set", 0, 1, ("switch", 4, ((2, ("num", 7)),), ("sum", 0, one, two))),
                          ("set", 0, 1, ("switch", 4, (), ("sum", 0, one, two))))

    def test_switches_around_switches(self):
        text = "(rule say (say 3) (rule say 4 (say 1)))"
        three = ("say", 1, ("num", 3))
        self.accept(text, ("set", 8, 1, ("set", 8, 2, (
            "switch", 8, ((1, three), (2, ("num", 4))), ("say", 0, ONE)))))
        text = "(rule say (rule say 4 (say 3)) (say 1))"
        three = ("switch", 17, ((2, ("num", 4)),), ("say", 1, ("num", 3)))
        self.accept(text, ("set", 8, 1, ("switch", 8, ((1, ("set", 17, 2, three)),), ("say", 0, ONE))))
        self.refuse(text, ("set", 8, 1, ("switch", 8, ((1, ("set", 17, 2, three)), (2, ("num", 4))), ("say", 0, ONE))))


class AskTest(JudgeTest):
    def made(self, branch, last=("sum", 0, ONE, TWO)):
        return ("set", 4, 1, ("switch", 4, ((1, branch),), last))

    def test_part_and_usual(self):
        text = "(rule sum (part 1) (sum 1 2))"
        self.accept(text, self.made(("tick", TWO)))
        self.refuse(text, self.made(TWO), self.made(("tick", ONE)), self.made(("tick", ("tick", TWO))))
        self.refuse_alike(text, self.made(("tick", ("sum", 0, ONE, ONE))), self.made(("let", "x", TWO, ("tick", X))),
                          self.made(("let", "x", ("tick", TWO), X)))
        text = "(rule sum (usual) (sum 1 2))"
        usual = ("sum", 0, ONE, TWO)
        self.accept(text, self.made(("tick", usual)))
        self.refuse(text, self.made(usual))
        self.refuse_alike(text, self.made(("tick", ("num", 3))), self.made(("tick", ("sum", 1, ONE, TWO))),
                          self.made(("tick", ("switch", 4, (), usual))), self.made(("sum", 0, ("tick", ONE), TWO)))

    def test_usual_is_not_by_the_rule(self):
        """The parts, but not the expression itself, have a switch."""
        text = "(rule say (usual) (say (say 1)))"
        inner = ("switch", 8, ((1, ("tick", ("say", 0, ONE))),), ("say", 0, ONE))
        right = ("say", 0, inner)
        self.accept(text, ("set", 8, 1, ("switch", 8, ((1, ("tick", right)),), right)))
        self.refuse(text, ("set", 8, 1, ("switch", 8, ((1, ("tick", ("say", 0, ("say", 0, ONE)))),), right)),
                    ("set", 8, 1, ("switch", 8, ((1, ("tick", inner)),), right)),
                    ("set", 8, 1, ("switch", 8, ((1, ("tick", right)),), inner)))

    def test_do(self):
        def do(a, b, operation, first=ONE, second=TWO):
            return self.made(("let", a, first, ("let", b, second, ("tick", operation))))
        text = "(rule sum (do 1 2) (sum 1 2))"
        self.accept(text, do("x", "y", ("sum", 0, X, Y)), do("y", "x", ("sum", 0, Y, X)))
        self.refuse_alike(text, do("x", "y", ("sum", 0, Y, X)), do("x", "y", ("sum", 0, X, TWO)),
                          do("x", "y", ("num", 3)), do("x", "y", ("sum", 1, X, Y)),
                          do("x", "y", ("sum", 0, Y, X), TWO, ONE),
                          self.made(("tick", ("let", "x", ONE, ("let", "y", TWO, ("sum", 0, X, Y))))),
                          self.made(("let", "x", ONE, ("tick", ("let", "y", TWO, ("sum", 0, X, Y))))),
                          self.made(("let", "x", ONE, ("let", "y", TWO, ("sum", 0, X, ("tick", Y))))))
        self.refuse(text, do("x", "y", ("sum", 0, X, X)), do("x", "x", ("sum", 0, X, X)),
                    do("x", "y", ("less", 0, X, Y)), do("x", "y", ("name", "x")),
                    self.made(("let", "x", ONE, ("let", "y", TWO, ("sum", 0, X, Y)))))
        self.refuse_alike("(rule sum (do 1 1) (sum 1 2))", do("x", "x", ("sum", 0, X, X), ONE, ONE))
        self.accept("(rule say (do 1) (say 5))",
                    ("set", 8, 1, ("switch", 8, ((1, ("let", "x", ONE, ("tick", ("say", 0, X)))),),
                                   ("say", 0, ("num", 5)))))

    def test_do_of_the_right_kind(self):
        """Equal rules for several kinds have different collapses."""
        text = "(rule sum (do 1 2) (rule less (do 1 2) (sum (less 3 4) (less 3 4))))"

        def do(word):
            return ("let", "x", ONE, ("let", "y", TWO, ("tick", (word, 0, X, Y))))

        def less(branch):
            return ("switch", 5, ((2, branch),), ("less", 0, ("num", 3), ("num", 4)))

        def made(first, second, third, wrap=lambda switch: switch):
            switch = ("switch", 4, ((1, first),), ("sum", 0, less(second), less(third)))
            return ("set", 4, 1, ("set", 5, 2, wrap(switch)))
        self.accept(text, made(do("sum"), do("less"), do("less")),
                    made(do("sum"), D, D, lambda switch: ("delay", "d", do("less"), switch)),
                    made(D, do("less"), do("less"), lambda switch: ("delay", "d", do("sum"), switch)))
        self.refuse_alike(text, made(do("sum"), do("sum"), do("less")))
        for word in ("sum", "less"):
            self.refuse(text, made(D, D, D, lambda switch: ("delay", "d", do(word), switch)),
                        made(D, D, do("less"), lambda switch: ("delay", "d", do(word), switch)))

    def test_with(self):
        text = "(rule let (with 5) (let x 1 (sum x x)))"

        def made(branch, name="x"):
            return ("set", 7, 1, ("switch", 7, ((1, branch),),
                                  ("let", name, ONE, ("sum", 0, ("name", name), ("name", name)))))
        self.accept(text, made(("let", "y", ("num", 5), ("tick", ("sum", 0, Y, Y)))),
                    made(("let", "x", ("num", 5), ("tick", ("sum", 0, X, X))), "z"))
        self.refuse(text, made(("let", "y", ("num", 5), ("sum", 0, Y, Y))), made(("sum", 0, X, X)),
                    made(("let", "y", ("num", 5), ("tick", ("sum", 0, Y, X)))),
                    made(("tick", ("let", "y", ("num", 6), ("sum", 0, Y, Y)))),
                    made(("let", "y", ("num", 5), ("set", 9, 1, ("sum", 0, Y, Y)))),
                    made(("let", "y", ("num", 5), ("delay", "d", ("sum", 0, Y, Y), D))),
                    made(("call", 1, ("fn", 1, "y", ("tick", ("sum", 0, Y, Y))), ("num", 5))))
        self.refuse_alike(text, made(("tick", ("let", "y", ("num", 5), ("sum", 0, Y, Y)))),
                          made(("let", "y", ("num", 5), ("tick", ("sum", 1, Y, Y)))),
                          made(("let", "y", ("num", 5), ("tick", ("let", "x", Y, ("sum", 0, Y, X))))))

    def test_names_of_several_levels(self):
        text = "(call (fn x (rule let (call (fn x (with x)) 1) (let y 1 (sum x y)))) 1)"

        def called(own, given, below, one, two):
            names = [("name", name) for name in (given, one, two)]
            branch = ("call", 1, ("fn", 1, own, ("let", "z", names[0], ("tick", ("sum", 0, names[1], names[2])))), ONE)
            return ("call", 0, ("fn", 0, below, ("set", 7, 1, ("switch", 7, ((1, branch),), (
                "let", "y", ONE, ("sum", 0, ("name", below), Y))))), ONE)
        self.accept(text, called("o", "o", "b", "b", "z"), called("z", "z", "b", "b", "z"),
                    called("y", "y", "x", "x", "z"))
        self.refuse_alike(text, called("o", "o", "b", "o", "z"), called("o", "b", "b", "b", "z"),
                          called("o", "o", "b", "z", "z"), called("b", "b", "b", "b", "z"),
                          called("o", "o", "b", "z", "b"), called("o", "o", "z", "z", "z"))


class DelayTest(JudgeTest):
    """About (sum 1 1), the rule for which asks for its parts and itself."""

    text = "(rule sum (sum (part 0) (sum (part 1) (usual))) (sum 1 1))"

    def made(self, parts, whole, last, *delays):
        """The collapse with these things where they are due, within delays, pairs of a name and an expression."""
        branch = ("sum", 1, ("tick", parts[0]), ("sum", 1, ("tick", parts[1]), ("tick", whole)))
        switch = ("switch", 4, ((1, branch),), last)
        for name, delayed in reversed(delays):
            switch = ("delay", name, delayed, switch)
        return ("set", 4, 1, switch)

    def test_how_many_delays(self):
        usual = ("sum", 0, ONE, ONE)
        self.accept(self.text, self.made((ONE, ONE), usual, usual),
                    self.made((D, ONE), usual, usual, ("d", ONE)),
                    self.made((D, D), usual, usual, ("d", ONE)),
                    self.made((D, D), ("sum", 0, D, D), ("sum", 0, D, D), ("d", ONE)),
                    self.made((D, ("force", "c")), ("sum", 0, ("force", "c"), D), usual, ("d", ONE), ("c", ONE)),
                    self.made((D, D), ("force", "u"), ("force", "u"), ("d", ONE), ("u", ("sum", 0, D, D))),
                    self.made((ONE, ONE), ("force", "u"), usual, ("u", usual)),
                    self.made((ONE, ONE), ("force", "u"), ("force", "v"), ("u", usual), ("v", ("force", "u"))),
                    self.made((D, D), usual, ("force", "v"), ("d", ONE), ("v", ("sum", 0, D, ONE)), ("w", TWO)))

    def test_what_is_never_forced(self):
        usual = ("sum", 0, ONE, ONE)
        for junk in (TWO, X, ("force", "nowhere"), ("force", "d"), ("fn", 7, "x", ("sum", 3, X, Y)),
                     ("delay", "x", ONE, TWO), ("switch", 99, ((3, ONE), (2, ("put", 70, 80))), X),
                     ("set", 0, 5, ("tick", ("let", "", ONE, ("less", 9, X, ("name", ""))))),
                     nested(15000, X, lambda e: ("if", 0, X, e, D))):
            self.accept(self.text, self.made((ONE, ONE), usual, usual, ("d", junk)),
                        self.made((ONE, ONE), usual, usual, ("d", junk), ("e", ("force", "d"))),
                        self.made((D, D), usual, usual, ("d", junk), ("d", ONE)),
                        self.made((D, D), usual, usual, ("e", junk), ("d", ONE), ("f", junk)))

    def test_what_is_forced_is_what_is_due(self):
        usual = ("sum", 0, ONE, ONE)
        self.refuse(self.text, self.made((D, ONE), usual, usual), self.made((D, ONE), usual, usual, ("d", TWO)),
                    self.made((D, ONE), usual, usual, ("d", D)), self.made((D, ONE), usual, usual, ("d", X)),
                    self.made((D, ONE), usual, usual, ("d", ONE), ("d", TWO)),
                    self.made((ONE, ONE), D, usual, ("d", ONE)),
                    self.made((ONE, ONE), usual, D, ("d", ONE)),
                    self.made((D, ONE), usual, usual, ("d", ("force", "c")), ("c", ONE)),
                    self.made((D, ONE), usual, usual, ("d", ("tick", ONE))))
        self.refuse_alike(self.text, self.made((D, ONE), usual, usual, ("d", ("let", "x", ONE, X))),
                          self.made((D, D), usual, usual, ("d", ("sum", 0, ONE, ("num", 0)))),
                          self.made((D, ONE), usual, usual, ("d", ("sum", 5, ONE, ("num", 0)))),
                          self.made((D, ONE), usual, usual, ("d", ("delay", "x", ONE, ONE))))

    def test_delays_stand_around_switches_only(self):
        usual = ("sum", 0, ONE, ONE)
        self.refuse_alike(self.text, ("delay", "d", ONE, self.made((ONE, ONE), usual, usual)),
                          self.made((("delay", "d", ONE, ONE), ONE), usual, usual),
                          self.made((ONE, ONE), ("delay", "d", ONE, usual), usual),
                          self.made((ONE, ONE), usual, ("delay", "d", ONE, usual)),
                          self.made((ONE, ONE), usual, ("delay", "d", usual, D)))
        switch = self.made((ONE, ONE), usual, usual)[3]
        self.refuse_alike(self.text, ("set", 4, 1, ("delay", "d", switch, D)))

    def test_no_force_of_what_is_no_collapse(self):
        """The operation of a do, its names, its steps, and the let of its second part are not due for themselves."""
        text = "(rule sum (do 1 2) (sum 1 1))"
        usual = ("sum", 0, ONE, ONE)
        operation = ("sum", 0, X, Y)
        inner = ("let", "y", TWO, ("tick", operation))

        def made(branch, name, delayed):
            return ("set", 4, 1, ("delay", name, delayed, ("switch", 4, ((1, branch),), usual)))
        self.accept(text, made(D, "d", ("let", "x", ONE, inner)), made(("let", "x", D, inner), "d", ONE),
                    made(("let", "x", ONE, ("let", "y", D, ("tick", operation))), "d", TWO))
        around = ("let", "x", ONE, ("let", "y", TWO, ("tick", D)))
        self.refuse(text, made(around, "d", operation), made(around, "d", ("sum", 0, ONE, TWO)))
        self.refuse(text, made(("let", "x", ONE, D), "d", inner), made(("let", "x", ONE, D), "d", (
            "let", "y", TWO, ("tick", ("sum", 0, ONE, Y)))))
        self.refuse(text, made(("let", "x", ONE, ("let", "y", TWO, ("tick", ("sum", 0, X, D)))), "d", TWO))

    def test_forces_further_in(self):
        """What is delayed around a switch may be forced wherever it is due in it."""
        text = "(rule num (usual) (sum (keep sum 5) (sum 1 (sum 2 1))))"

        def num(n):
            return ("switch", 0, ((1, ("tick", ("num", n))),), ("num", n))

        def sums(first, last, *delays):
            inner = ("switch", 4, ((2, num(5)),), ("sum", 0, num(2), last))
            middle = ("switch", 4, ((2, num(5)),), ("sum", 0, first, inner))
            outer = ("switch", 4, ((2, num(5)),), ("sum", 0, ("put", 4, 2), middle))
            for name, delayed in reversed(delays):
                outer = ("delay", name, delayed, outer)
            return ("set", 0, 1, outer)
        self.refuse(text, sums(num(1), num(1)))
        text = "(rule num (usual) (sum (keep sum (part 0)) (sum 1 (sum 2 1))))"

        def right(first, last, *delays):
            inner = ("switch", 4, ((2, ("tick", num(2))),), ("sum", 0, num(2), last))
            middle = ("switch", 4, ((2, ("tick", first)),), ("sum", 0, first, inner))
            outer = ("switch", 4, ((2, ("tick", ("put", 4, 2))),), ("sum", 0, ("put", 4, 2), middle))
            for name, delayed in reversed(delays):
                outer = ("delay", name, delayed, outer)
            return ("set", 0, 1, outer)
        self.accept(text, right(num(1), num(1)), right(D, D, ("d", num(1))), right(D, num(1), ("d", num(1))),
                    right(num(1), D, ("d", num(1))))
        self.refuse(text, right(D, D, ("d", num(2))), right(num(1), D, ("d", ONE)), right(D, D, ("d", num(3))))

    def test_the_same_expression_in_the_built_in_way(self):
        """What is delayed is due either as a whole or in the built-in way, also where it is equal expressions."""
        text = "(rule less 1 (rule say 2 (less (say 3) (say 3))))"
        usual = ("say", 0, ("num", 3))

        def say(last):
            return ("switch", 8, ((2, TWO),), last)

        def made(first, second, delayed):
            return ("set", 5, 1, ("set", 8, 2, ("delay", "d", delayed, (
                "switch", 5, ((1, ONE),), ("less", 0, first, second)))))
        self.accept(text, made(say(usual), say(usual), ONE), made(say(D), say(D), usual), made(D, D, say(usual)),
                    made(D, say(usual), say(usual)), made(say(D), say(usual), usual))
        self.refuse(text, made(D, say(D), usual), made(say(D), D, usual), made(D, say(D), say(usual)),
                    made(say(D), D, say(usual)), made(D, D, usual), made(say(D), say(D), say(usual)))

    def test_names_in_what_is_delayed(self):
        text = "(fn x (rule sum (fn z (part 0)) (let y 1 (sum x y))))"

        def made(branch, delayed, names=("x", "y")):
            last = ("sum", 0, ("name", names[0]), ("name", names[1]))
            return ("fn", 0, names[0], ("set", 4, 1, ("let", names[1], ONE, (
                "delay", "d", delayed, ("switch", 4, ((1, branch),), last)))))
        self.accept(text, made(("fn", 1, "z", ("tick", D)), X), made(("fn", 1, "z", D), ("tick", X)),
                    made(("fn", 1, "x", ("tick", D)), X), made(("fn", 1, "y", D), ("tick", X)),
                    made(("fn", 1, "d", ("tick", D)), X), made(("fn", 1, "z", ("tick", X)), ONE),
                    made(("fn", 1, "z", ("tick", ("name", "d"))), ONE, ("d", "y")))
        self.refuse(text, made(("fn", 1, "z", ("tick", D)), Y), made(("fn", 1, "x", ("tick", X)), X),
                    made(("fn", 1, "z", ("tick", D)), ("name", "z")), made(("fn", 1, "z", ("tick", ("name", "d"))), X))

    def less(self, first, second, delayed):
        """A collapse of a less within a fn, with something delayed around its switch."""
        return ("fn", 0, "x", ("set", 5, 1, ("delay", "d", delayed, (
            "switch", 5, ((1, ONE),), ("less", 0, first, second)))))

    def test_each_name_leads_to_the_same_binding(self):
        """A force stands for equal expressions, but only where their names lead to the same bindings."""
        for e, say in (("(say x)", ("say", 0, X)), ("(let x x 3)", ("let", "z", X, ("num", 3))),
                       ("(sum x (let x x x))", ("sum", 0, X, ("let", "y", X, Y)))):
            inner = ("let", "x", TWO, say)
            text = f"(fn x (rule less 1 (less {e} (let x 2 {e}))))"
            self.accept(text, self.less(say, inner, ONE), self.less(D, inner, say))
            self.refuse(text, self.less(say, ("let", "x", TWO, D), say), self.less(D, ("let", "x", TWO, D), say))
            text = f"(fn x (rule less 1 (less (let x 2 {e}) {e})))"
            self.accept(text, self.less(inner, say, ONE), self.less(inner, D, say))
            self.refuse(text, self.less(("let", "x", TWO, D), say, say), self.less(("let", "x", TWO, D), D, say))
            other = ("let", "y", TWO, D)
            self.accept(f"(fn x (rule less 1 (less {e} (let y 2 {e}))))", self.less(D, other, say))
            self.accept(f"(fn x (rule less 1 (less (let y 2 {e}) {e})))", self.less(other, D, say))

    def test_equal_expressions_only(self):
        """What is delayed is right at one of two places."""
        x = ("fn", 0, "a", ("fn", 0, "b", ("name", "a")))
        y = ("fn", 0, "a", ("fn", 0, "b", ("name", "b")))
        for first, one, second, two in (
            ("1", ONE, "2", TWO), ("x", X, "1", ONE), ("(fn x (fn y x))", x, "(fn x (fn y y))", y),
            ("(sum 1 1)", ("sum", 0, ONE, ONE), "1", ONE),
            ("(sum 1 2)", ("sum", 0, ONE, TWO), "(sum 2 1)", ("sum", 0, TWO, ONE)),
            ("(call 1 2)", ("call", 0, ONE, TWO), "(sum 1 2)", ("sum", 0, ONE, TWO)),
        ):
            for texts, things in (((first, second), (one, two)), ((second, first), (two, one))):
                text = f"(fn x (rule less (fn z z) (less {texts[0]} {texts[1]})))"
                branch = (1, ("fn", 1, "z", ("name", "z")))

                def made(left, right, delayed):
                    return ("fn", 0, "x", ("set", 5, 1, ("delay", "d", delayed, (
                        "switch", 5, (branch,), ("less", 0, left, right)))))
                self.accept(text, made(*things, ONE), made(D, things[1], things[0]), made(things[0], D, things[1]))
                self.refuse(text, made(D, D, one), made(D, D, two), made(D, things[1], things[1]))

    def test_rules_within_what_is_forced_twice(self):
        """Rules have numbers of their own, so that expressions with rules are equal to no others."""
        text = "(rule less 1 (less (keep num 3) (keep num 3)))"
        row = ((2, ("num", 3)), (3, ("num", 3)))
        branch = (1, ("num", 1))
        program = parse(text)

        def made(first, second, *delays):
            switch = ("switch", 5, (branch,), ("less", 0, first, second))
            for name, delayed in reversed(delays):
                switch = ("delay", name, delayed, switch)
            return ("set", 5, 1, switch)
        self.assertTrue(is_collapse(program, made(("put", 0, 2), ("put", 0, 3))))
        self.assertTrue(is_collapse(program, made(D, ("put", 0, 3), ("d", ("put", 0, 2)))))
        self.assertFalse(is_collapse(program, made(D, D, ("d", ("put", 0, 2)))))
        self.assertFalse(is_collapse(program, made(("switch", 0, row, ("put", 0, 2)), ("put", 0, 3))))


class FormTest(JudgeTest):
    def test_nothing_else_than_plain_programs(self):
        for other in (None, True, False, 0, 1, "", "num", b"num", 1.0, [], {}, (), ((),), ("num",), ("num", 1, 1),
                      ["num", 1], ("num", True), ("num", 1.0), ("num", "1"), ("num", None), ("num", (1,)), ("numb", 1),
                      (1, 1), (("num", 1),), (None, 1), (["num"], 1), ({}, 1), ("num", ONE), (b"num", 1), ("NUM", 1),
                      ("num", [1])):
            self.refuse("1", other)

    def test_in_each_place(self):
        for right in (("name", "x"), ("fn", 0, "x", ONE), ("call", 0, ONE, ONE), ("sum", 0, ONE, ONE),
                      ("less", 0, ONE, ONE), ("if", 0, ONE, ONE, ONE), ("let", "x", ONE, ONE), ("say", 0, ONE),
                      ("delay", "x", ONE, ONE), ("force", "x"), ("tick", ONE), ("set", 0, 0, ONE), ("put", 0, 0),
                      ("switch", 0, (), ONE), ("switch", 0, ((1, ONE), (3, ONE)), ONE),
                      ("switch", 7, ((2, ONE),), ONE)):
            self.check_junk(right, True)
            self.check_junk(right + (ONE,), False)
            self.check_junk(right[:-1], False)
            self.check_junk(list(right), False)
            for at in range(1, len(right)):
                for other in (None, True, False, -1, 1.0, [], b"x", ("x",), (ONE,), ("sum", 0, ONE), right[0]):
                    fits = isinstance(right[at], str) and isinstance(other, str)
                    self.check_junk(right[:at] + (other,) + right[at + 1:], fits)

    def test_branches(self):
        for branches in (ONE, (1, ONE), ((1, ONE, ONE),), ((1,),), (("1", ONE),), ((0, ONE),), ((-1, ONE),),
                         ((True, ONE),), ((1, ONE), (1, ONE)), ((2, ONE), (1, ONE), (2, TWO)), ([1, ONE],), [(1, ONE)],
                         ((1, ("sum", 0, ONE)),), ((1, None),), ((1.0, ONE),), (None,), ((None, ONE),), (((1,), ONE),)):
            self.check_junk(("switch", 0, branches, ONE), False)

    def check_junk(self, junk, is_plain):
        """Whether a collapse remains one with something delayed that is never forced."""
        program = ("rule", "num", ONE, ONE)
        switch = ("switch", 0, ((1, ONE),), ONE)
        for thing in (junk, ("sum", 9, junk, ONE), ("delay", "z", ("switch", 1, ((5, ONE), (4, junk)), ONE), ONE)):
            self.assertIs(is_collapse(program, ("set", 0, 1, ("delay", "x", thing, switch))), is_plain, thing)

    def test_booleans_are_no_numbers(self):
        self.refuse("1", ("num", True))
        self.refuse("0", ("num", False))
        self.refuse("(say 0)", ("say", False, ("num", 0)))
        self.refuse("(say (fn x 1))", ("say", 0, ("fn", False, "x", ONE)))
        self.refuse("(keep name 1)", ("put", True, 1), ("put", 1, True))
        self.refuse("(rule num 1 1)", ("set", False, 1, ("switch", 0, ((1, ONE),), ONE)),
                    ("set", 0, True, ("switch", 0, ((1, ONE),), ONE)),
                    ("set", 0, 1, ("switch", 0, ((True, ONE),), ONE)),
                    ("set", 0, 1, ("switch", False, ((1, ONE),), ONE)))

    def test_nothing_is_a_collapse_of_no_program(self):
        for other in (None, True, 1, (), ("num", True), ("num", 1.0), ("name", "x"), ["num", 1], ("part", 0),
                      ("sum", ONE), ("tick", ONE), ("num", 1000001)):
            for plain in (ONE, other, ("name", "x"), ("num", True), ("num", 1000001)):
                self.assertIs(is_collapse(other, plain), False)

    def test_other_programs(self):
        for text, program in FORMS:
            for other_text, other in FORMS:
                wanted = text == other_text or collapse(program) == collapse(other)
                self.assertIs(is_collapse(program, collapse(other)), wanted, (text, other_text))

    def test_programs_are_no_collapses_of_themselves(self):
        for text, program in FORMS:
            self.assertIs(is_collapse(program, program), program[0] == "num" or text == "(let x 1 x)", text)


class DepthTest(FewCalls, JudgeTest):
    def test_tuples_of_any_depth(self):
        program = parse("(rule num 1 (sum 1 2))")
        for wrap in (lambda e: (e,), lambda e: ("num", e), lambda e: (e, 1), lambda e: ("say", 0, e),
                     lambda e: ("sum", 0, e, ONE), lambda e: ("fn", 0, "x", e), lambda e: ("delay", "x", e, ONE),
                     lambda e: ("delay", "x", ONE, e), lambda e: ("let", "x", ONE, e), lambda e: ("tick", e),
                     lambda e: ("switch", 0, ((1, e),), ONE), lambda e: ("switch", 0, ((1, ONE),), e),
                     lambda e: ("switch", e, (), ONE), lambda e: ("switch", 0, e, ONE), lambda e: ("set", 0, 1, e),
                     lambda e: ("say", e, ONE), lambda e: ("fn", 0, e, ONE), lambda e: ("num", (e, 5))):
            for kernel in (ONE, 1, None, ()):
                self.assertIs(is_collapse(program, nested(20000, kernel, wrap)), False)
        self.assertIs(is_collapse(nested(20000, ONE, lambda e: (e,)), ONE), False)
        self.assertIs(is_collapse(nested(20000, ONE, lambda e: ("say", e)), ONE), False)
        self.assertIs(is_collapse(nested(20000, ONE, lambda e: ("say", e)),
                                  nested(20000, ONE, lambda e: ("say", 0, e))), True)
        self.assertIs(is_collapse(nested(3000, ONE, lambda e: ("rule", "num", e, ONE)), ONE), False)

    def test_deep_delays(self):
        """Each part is delayed by way of thousands of others."""
        program = parse("(rule num (sum (usual) (usual)) (fn x 1))")
        branch = ("sum", 1, ("tick", D), ("tick", D))

        def made(kernel, last=D):
            chain = nested(9900, ("switch", 0, ((1, branch),), last), lambda e: ("delay", "d", D, e))
            return ("set", 0, 1, ("fn", 0, "x", ("delay", "d", kernel, chain)))
        self.assertIs(is_collapse(program, made(ONE)), True)
        self.assertIs(is_collapse(program, made(TWO)), False)
        self.assertIs(is_collapse(program, made(TWO, ONE)), False)

    def test_as_deep_as_a_program_may_be(self):
        """Each level goes through all of the next one, for each of its expressions."""
        program = ("rule", "say", ("rule", "say", ("rule", "say", nested(6, ("usual",), lambda e: ("do", (e,))),
                                                   nested(6, ("part", 0), lambda e: ("say", e))),
                                   nested(7, ("part", 0), lambda e: ("say", e))),
                   nested(8, ONE, lambda e: ("say", e)))
        self.assertEqual((size(program), height(program)), ((34, 10), 3))
        plain = collapse(program)
        self.assertGreater(plain_size(plain), 10000)
        self.assertIs(is_collapse(program, plain), True)
        rng = random.Random(3)
        paths = paths_of(plain)
        for _ in range(20):
            path = rng.choice(paths)
            node = at_path(plain, path)
            if node[0] in ("num", "say", "tick", "let"):
                for other in (("tick", node), ("num", 5), ("say", 1, node)):
                    self.assertIs(is_collapse(program, put_at(plain, path, other)), False)


class LargeTest(JudgeTest):
    def test_forces_instead_of_very_much(self):
        """With all that is equal delayed once; without delays this would be far too large."""
        asks = 15
        rule = nested(asks - 1, ("with", ONE), lambda e: ("sum", ("with", ONE), e))
        program = ("rule", "let", rule, nested(9, ("num", 5), lambda e: ("let", "x", ONE, e)))
        self.assertLessEqual(size(program)[0], 64)

        def switch(body):
            ask = ("let", "y", ONE, ("tick", body))
            branch = nested(asks - 1, ask, lambda e: ("sum", 1, ask, e))
            return ("switch", 7, ((1, branch),), ("let", "z", ONE, body))

        def made(kernel):
            plain = switch(("force", "d8"))
            for k in range(8, 0, -1):
                plain = ("delay", f"d{k}", switch(("force", f"d{k - 1}")), plain)
            return ("set", 7, 1, ("delay", "d0", kernel, plain))
        self.assertIs(is_collapse(program, made(("num", 5))), True)
        self.assertIs(is_collapse(program, made(("num", 6))), False)
        self.assertIs(is_collapse(program, made(("force", "d8"))), False)

    def test_collapses_of_all_sizes(self):
        rng = random.Random(5)
        largest = 0
        for _ in range(300):
            program = Maker(rng).program(rng.randrange(3, 8))
            try:
                plain = collapse(program)
            except LimitError:
                continue
            largest = max(largest, plain_size(plain))
            self.assertIs(is_collapse(program, plain), True)
        self.assertGreater(largest, 3000)


class ManyProgramsTest(JudgeTest):
    def programs(self, rng, many):
        """Programs whose collapses without delays are not too large."""
        found = []
        while len(found) < many:
            program = Maker(rng).program(rng.randrange(2, 6))
            if rng.random() < 0.4:
                program = random_program(rng, rng.randrange(7))
            if size(program)[0] <= 60 and height(program) <= 3:
                try:
                    plain = Expansion(program).plain
                except OverflowError:
                    continue
                if len(nodes_of(plain)) <= 500:
                    found.append(program)
        return found

    def test_all_collapses(self):
        """However delays are put into it, and whatever its names are."""
        rng = random.Random(18)
        delays = 0
        for program in self.programs(rng, 200):
            disguise = Disguise(rng)
            plain = disguise.disguise(program, rng.randrange(8))
            renamed = plain_tuples(disguise.rename(plain, ["a", "b", "c", "d", "e"]))
            plain = plain_tuples(plain)
            delays += sum(node[0] == "delay" for node in nodes_of(plain))
            self.assertIs(is_collapse(program, plain), True, (program, plain))
            wanted = plainly_is_collapse(program, renamed)
            self.assertIs(is_collapse(program, renamed), wanted, (program, renamed))
            if wanted:
                for fuel in (0, 1, 2, 4, 8, 30):
                    self.assertEqual(run_plain(renamed, fuel), run(program, fuel))
        self.assertGreater(delays, 200)

    def test_small_changes(self):
        rng = random.Random(182)
        found = {True: 0, False: 0}
        for program in self.programs(rng, 150):
            plains = [collapse(program), plain_tuples(Disguise(rng).disguise(program, 5))]
            for plain in plains:
                for _ in range(8):
                    changed = plain_tuples(mutant(rng, plain))
                    wanted = plainly_is_collapse(program, changed)
                    found[wanted] += 1
                    self.assertIs(is_collapse(program, changed), wanted, (program, changed))
        self.assertGreater(min(found[True], found[False]), 100)

    def test_same_answer_again_and_nothing_is_modified(self):
        rng = random.Random(183)
        for program in self.programs(rng, 30):
            for plain in (collapse(program), mutant(rng, collapse(program))):
                kept = repr((program, plain))
                found = is_collapse(program, plain)
                is_collapse(("num", 1), ("num", 1))
                self.assertIs(is_collapse(program, plain), found)
                self.assertEqual(repr((program, plain)), kept)


if __name__ == "__main__":
    unittest.main()
