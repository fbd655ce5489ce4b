import random
import re
import unittest

from tests.examples import FORMS, KINDS, WORDS, nested, random_program, text_of_nodes
from ziggurat.errors import FormError, LimitError, ParseError
from ziggurat.forms import height, size
from ziggurat.texts import parse, print_program


def words_of(text):
    """The pairs (index, word) of a text without wrong signs."""
    return [(found.start(), found.group()) for found in re.finditer(r"[()]|[A-Za-z0-9-]+", text)]


class TextsTest(unittest.TestCase):
    def raises(self, error, text):
        """The text is refused, with an error of this very class."""
        try:
            parse(text)
        except ValueError as found:
            self.assertIs(found.__class__, error, (text, found))
            return found
        self.fail(f"not refused: {text}")

    def stops(self, text, at):
        self.assertEqual(self.raises(ParseError, text).at, at, text)


class PrintingTest(TextsTest):
    def test_each_form(self):
        for text, program in FORMS:
            self.assertEqual(print_program(program), text)
            self.assertEqual(print_program(program), text)

    def test_each_form_is_read(self):
        for text, program in FORMS:
            self.assertEqual(parse(text), program)
            self.assertEqual(parse(text), program)

    def test_random_programs(self):
        rng = random.Random(13)
        read = 0
        for _ in range(2000):
            program = random_program(rng, rng.randrange(1, 8))
            text = print_program(program)
            self.assertNotIn("  ", text)
            self.assertNotIn("( ", text)
            self.assertNotIn(" )", text)
            self.assertNotIn(")(", text)
            if size(program)[0] <= 60 and height(program) <= 3:
                self.assertEqual(parse(text), program)
                read += 1
            elif len(text) <= 4000:
                self.raises(LimitError, text)
        self.assertGreater(read, 1000)


class ParsingTest(TextsTest):
    def test_values(self):
        program = parse("(rule sum (do (part 0) (usual)) (sum -1 2))")
        self.assertEqual(program, ("rule", "sum", ("do", (("part", 0), ("usual",))),
                                   ("sum", ("num", -1), ("num", 2))))
        self.assertIs(program.__class__, tuple)
        self.assertIs(program[2][1].__class__, tuple)
        self.assertIs(program[3][1][1].__class__, int)

    def test_spaces_and_newlines(self):
        rng = random.Random(7)
        for text, program in FORMS:
            for gap in (" ", "\n", "  ", "\n \n"):
                spread = gap + gap.join([word for _, word in words_of(text)]) + gap
                self.assertEqual(parse(spread), program, spread)
            mixed = "".join([rng.choice([" ", "\n", "\n  "]) + word for _, word in words_of(text)])
            self.assertEqual(parse(mixed), program, mixed)

    def test_spaces_that_may_be_left_out(self):
        for text, program in FORMS:
            tight = re.sub(r" (?=\()|(?<=\)) ", "", text)
            self.assertEqual(parse(tight), program, tight)
        self.assertEqual(parse("(sum(say 1)2)"), ("sum", ("say", ("num", 1)), ("num", 2)))
        self.assertEqual(parse("(keep let(with(part 0)))"), ("keep", "let", ("with", ("part", 0))))

    def test_numbers(self):
        self.assertEqual(parse("(sum 10 -10)"), ("sum", ("num", 10), ("num", -10)))
        for word in ("00", "01", "-0", "-01", "--1", "-", "1-", "1-2", "1a", "0x1", "-a", "1e5"):
            self.stops(word, 0)
            self.stops(f"(sum 1 {word})", 7)
            self.stops(f"(keep if (part {word}))", 15)

    def test_names(self):
        for word in ("a", "Z", "a1", "abcdefgh", "A2345678", "kind", "sums", "Sum", "IF", "e", "r"):
            self.assertEqual(parse(f"(fn {word} {word})"), ("fn", word, ("name", word)))
        for word in WORDS + ["a-b", "a-", "-a", "1", "-1", "0", "1a", "-"]:
            self.stops(f"(fn {word} 1)", 4)
            self.stops(f"(let {word} 1 1)", 5)
        for word in WORDS:
            self.stops(word, 0)
            self.stops(f"(say {word})", 5)

    def test_first_words(self):
        for word in ("num", "name", "x", "1", "-1", "SUM", "kind", "sum-", "tick", "(", ")"):
            self.stops(f"({word} 1)", 1)
            self.stops(f"(say ({word} 1))", 6)

    def test_kinds(self):
        for kind in KINDS:
            self.assertEqual(parse(f"(keep {kind} 1)"), ("keep", kind, ("num", 1)))
            self.assertEqual(parse(f"(rule {kind} 1 2)"), ("rule", kind, ("num", 1), ("num", 2)))
        for word in ("rule", "keep", "part", "with", "usual", "do", "x", "1", "Num", "(sum", ")"):
            self.stops(f"(keep {word} 1)", 6)
            self.stops(f"(rule {word} 1 2)", 6)

    def test_wrong_signs(self):
        signs = "!\"#$%&'*+,./:;<=>?@[\\]^_`{|}~\t\r\x00\x7f\u00e9\u00b2\u0661\u00a0\u2003"
        for sign in signs:
            self.stops(sign, 0)
            self.stops(sign + "(say 1)", 0)
            self.stops("  " + sign, 2)
            self.stops(f"(sum {sign} 1)", 5)
            self.stops(f"(sum 1{sign} 1)", 6)
            self.stops(f"(fn x{sign} x)", 5)
            self.stops(f"(keep num{sign} 1)", 9)
            self.stops(f"(say{sign} 1)", 4)
            self.stops(f"(say 1){sign}", 7)
            self.stops(f"(say 1) {sign}", 8)

    def test_a_wrong_sign_at_each_word(self):
        for text, _ in FORMS:
            for at, word in words_of(text):
                self.stops(text[:at] + "$" + text[at:], at)
                end = at + len(word)
                self.stops(text[:end] + "$" + text[end:], end)

    def test_a_wrong_sign_behind_another_fault(self):
        self.stops("(sum 01 $)", 5)
        self.stops("01$", 0)
        self.stops("(foo $)", 1)
        self.stops("(say 1) 2 $", 8)
        self.stops("(say 1 2$)", 7)
        self.stops("$ 01", 0)
        self.stops(") $", 0)

    def test_too_early_ends(self):
        self.stops("", 0)
        self.stops("   ", 3)
        self.stops("\n", 1)
        self.stops("(sum 1  ", 8)
        self.stops("(do", 3)
        self.stops("(usual", 6)
        for text, _ in FORMS:
            for at, _ in words_of(text):
                self.stops(text[:at], at)
                self.stops(text[:at] + " \n", at + 2)

    def test_behind_a_whole_program(self):
        for text, _ in FORMS:
            for more in ("1", "x", "sum", "(", ")", "(say 1)", "01", "-", "$"):
                self.stops(f"{text} {more}", len(text) + 1)
        self.assertEqual(parse("1 "), ("num", 1))
        self.stops("(say 1)2", 7)
        self.stops("(say 1))", 7)
        self.stops("1(", 1)
        # behind what is not well formed, or too large, too
        self.stops("x 1", 2)
        self.stops("1000001 1", 8)
        self.stops("(usual) (", 8)

    def test_wrong_numbers_of_things(self):
        self.stops("()", 1)
        self.stops(")", 0)
        self.stops("(fn)", 3)
        self.stops("(fn x)", 5)
        self.stops("(fn x 1 2)", 8)
        self.stops("(fn (say 1) 1)", 4)
        self.stops("(call 1)", 7)
        self.stops("(sum 1 2 3)", 9)
        self.stops("(less 1 2 (say 1))", 10)
        self.stops("(if 1 2)", 7)
        self.stops("(if 1 2 3 4)", 10)
        self.stops("(let x 1)", 8)
        self.stops("(let x 1 2 3)", 11)
        self.stops("(say)", 4)
        self.stops("(say 1 2)", 7)
        self.stops("(rule num 1)", 11)
        self.stops("(rule num 1 2 3)", 14)
        self.stops("(keep num)", 9)
        self.stops("(keep num 1 2)", 12)
        self.stops("(keep num (usual 1))", 17)
        self.stops("(keep if (part))", 14)
        self.stops("(keep if (part 1 2))", 17)
        self.stops("(keep if (part x))", 15)
        self.stops("(keep if (part (say 1)))", 15)
        self.stops("(keep let (with))", 15)
        self.stops("(keep let (with 1 2))", 18)
        self.stops("(keep sum (do 1 sum))", 16)


class FormErrorTest(TextsTest):
    def test_not_well_formed(self):
        for text in ("x", "(do)", "(part -1)", "(part 0)", "(usual)", "(with 1)", "(do 1 2)", "(fn x y)",
                     "(let x x 1)", "(keep num (part 0))", "(keep if (part 3))", "(keep if (part -1))",
                     "(keep sum (with 1))", "(keep num (do))", "(keep sum (do))", "(keep sum (do 1))",
                     "(keep sum (do 1 2 3))", "(keep say (do 1 2))", "(keep if (do 1 2))", "(fn x (keep num x))",
                     "(rule num 1 (usual))", "(keep let (keep sum (with 1)))", "(call (fn x x) x)"):
            self.raises(FormError, text)

    def test_names_and_numbers_of_any_size(self):
        long = "a" * 3000
        for text in (long, "abcdefghi", f"(part {'9' * 3000})", f"(sum x {'9' * 3000})", f"(fn {long} x)",
                     f"(sum -{'9' * 3900} (usual))", "(keep if (part 1000001))", f"(keep if (part -{'9' * 99}))",
                     "(sum 1000001 x)", "(fn abcdefghi abcdefghj)"):
            self.raises(FormError, text)

    def test_before_limits(self):
        deep = nested(11, "x", lambda text: f"(say {text})")
        self.raises(FormError, deep)
        wide = nested(6, "x", lambda text: f"(sum {text} {text})")
        self.raises(FormError, wide)
        self.raises(FormError, nested(4, "x", lambda text: f"(keep num {text})"))
        self.raises(FormError, nested(59, "(usual)", lambda text: f"(say {text})"))
        self.raises(FormError, f"(do {'1 ' * 100})")

    def test_behind_parse_errors(self):
        self.stops("(sum x 01)", 7)
        self.stops("(usual) 1", 8)
        self.stops("(do", 3)
        self.stops("(part -1", 8)


class LimitErrorTest(TextsTest):
    def test_names(self):
        self.assertEqual(parse("(fn abcdefgh abcdefgh)"), ("fn", "abcdefgh", ("name", "abcdefgh")))
        self.raises(LimitError, "(fn abcdefghi abcdefghi)")
        self.raises(LimitError, "(fn abcdefghi 1)")
        self.raises(LimitError, "(let abcdefghi 1 2)")
        self.raises(LimitError, f"(fn {'a' * 3000} 1)")

    def test_numbers(self):
        for n in (1000000, -1000000):
            self.assertEqual(parse(f"(say {n})"), ("say", ("num", n)))
        for word in ("1000001", "-1000001", "9" * 4000, "-" + "9" * 3999):
            self.raises(LimitError, word)
        self.raises(LimitError, "(keep sum (do 1000001 1))")

    def test_nodes(self):
        for many in (1, 2, 10, 59, 60):
            self.assertEqual(size(parse(text_of_nodes(many)))[0], many)
        for many in (61, 62, 300):
            self.raises(LimitError, text_of_nodes(many))

    def test_nodes_of_rules_and_asks(self):
        self.assertEqual(size(parse(f"(rule num {text_of_nodes(58)} 1)"))[0], 60)
        self.raises(LimitError, f"(rule num {text_of_nodes(59)} 1)")
        self.assertEqual(size(parse(f"(keep let (with {text_of_nodes(58)}))"))[0], 60)
        self.raises(LimitError, f"(keep let (with {text_of_nodes(59)}))")
        self.assertEqual(size(parse(f"(keep sum (do (part 0) {text_of_nodes(57)}))"))[0], 60)
        self.raises(LimitError, f"(keep sum (do (part 0) {text_of_nodes(58)}))")

    def test_depth(self):
        self.assertEqual(size(parse(nested(9, "1", lambda text: f"(say {text})"))), (10, 10))
        self.raises(LimitError, nested(10, "1", lambda text: f"(say {text})"))
        self.raises(LimitError, nested(59, "1", lambda text: f"(say {text})"))
        self.raises(LimitError, nested(10, "1", lambda text: f"(rule num 1 {text})"))

    def test_levels(self):
        self.assertEqual(height(parse(nested(3, "1", lambda text: f"(keep num {text})"))), 3)
        self.raises(LimitError, nested(4, "1", lambda text: f"(keep num {text})"))
        self.raises(LimitError, "(rule num (rule num (rule num (rule num 1 1) 1) 1) 1)")
        self.assertEqual(height(parse("(rule num 1 (rule num 1 (rule num 1 (rule num 1 1))))")), 1)

    def test_length_of_the_text(self):
        text = "(say 1)"
        self.assertEqual(parse(text + " " * (4000 - len(text))), ("say", ("num", 1)))
        self.raises(LimitError, text + " " * (4001 - len(text)))
        self.stops(" " * 4000, 4000)
        self.stops("$" * 4000, 0)
        # the length comes first of all
        for sign in (" ", "$", ")", "(", "x", "1"):
            self.raises(LimitError, sign * 4001)
        self.raises(FormError, "x" * 4000)
        self.raises(LimitError, "1" * 4000)

    def test_open_brackets(self):
        sixty = "(say " * 60
        self.stops(sixty, 300)
        self.stops(sixty + "$", 300)
        self.stops(sixty + ")", 300)
        self.stops(sixty + "sum", 300)
        self.raises(LimitError, sixty + "1" + ")" * 60)
        self.raises(FormError, sixty + "x" + ")" * 60)
        self.stops(sixty + "1" + ")" * 59, 360)
        self.stops(sixty + "1" + ")" * 61, 361)
        # at once, whatever comes behind
        for more in ("(", "( ", "($", "()", "(foo", "(say 1", " (usual)", "((", "(1"):
            self.raises(LimitError, sixty + more)
        self.raises(LimitError, "(sum x " + sixty + "$")

    def test_open_brackets_in_each_place(self):
        fifty = "(say " * 59
        for opened in ("(do ", "(do 1 ", "(sum 1 ", "(let x 1 ", "(fn x ", "(rule num ", "(rule num 1 ", "(keep num ",
                       "(with ", "(if 1 1 "):
            self.raises(LimitError, fifty + opened + "(")
            self.raises(LimitError, fifty + opened + "(usual 1")
        # a bracket that may not stand there is a fault of its own
        for opened in ("(", "(part ", "(fn ", "(let ", "(rule ", "(keep ", "(usual ", "(sum 1 1 ", "(part 1 "):
            self.stops(fifty + opened + "(", 295 + len(opened))

    def test_brackets_that_are_closed_do_not_count(self):
        many = "(do " + "(usual)" * 400 + ")"
        self.raises(FormError, many)
        inner = nested(59, "1", lambda text: f"(say {text})")
        self.raises(LimitError, f"(sum {inner} {inner})")
        self.stops(f"(sum {inner} {inner}) (", 4 + 2 + 2 * len(inner) + 1 + 1)
        self.stops("1 " + "(" * 61, 2)

    def test_behind_form_errors_and_parse_errors(self):
        self.stops("(sum 1000001 01)", 13)
        self.raises(FormError, "(sum 1000001 x)")
        self.raises(LimitError, "(sum 1000001 1)")
        self.stops("(say " * 11 + "1" + ")" * 10, 66)


if __name__ == "__main__":
    unittest.main()
