import random
import string
import unittest
from fractions import Fraction

from helpers import functions_of, operator, others, ratio, vector
from indicial.errors import NoText, Refused
from indicial.operator import Operator
from indicial.products import PowerProduct
from indicial.ratio import Ratio
from indicial.sheet import full_text, is_name, product_text, read_line, space_text
from indicial.spaces import Space, rational_space
from indicial.text import read_function, read_operator

WORDS = ("let", "apply", "multiply", "divide", "common", "multiple", "equal", "solve", "products")
PAIRS = ("multiply", "divide", "common", "multiple", "equal")
NAMES = {"op": "x*D - 1", "of": "D^2", "ox": "x + 1", "opa": "7"}


class Refusals(unittest.TestCase):
    def no_text(self, line, at, names=NAMES, **named):
        with self.assertRaises(NoText, msg=line) as held:
            read_line(names, line, **named)
        self.assertEqual(held.exception.at, at, line)

    def refused(self, line, reason, names=NAMES, **named):
        with self.assertRaises(Refused, msg=line) as held:
            read_line(names, line, **named)
        self.assertEqual(held.exception.reason, reason, line)


class Names(unittest.TestCase):
    def test_names(self):
        for value in ("op", "ab", "abcdefghijkl", "lets", "zz", "empty", "sol", "xx", "function"):
            self.assertIs(is_name(value), True, value)

    def test_others(self):
        for value in others() + ["a", "x", "abcdefghijklm", "Op", "oP", "o p", "op ", " op", "o1", "o_p", "\u00e9\u00e9", "op\n", "D", b"op", ("op",)] + list(WORDS):
            self.assertIs(is_name(value), False, value)


class FullTexts(unittest.TestCase):
    def test_examples(self):
        for text, expected in (
                ("op", "(x*D - 1)"), ("op*op", "(x*D - 1)*(x*D - 1)"), ("x", "x"), ("x*D", "x*D"), ("opa", "(7)"), ("op a", "(x*D - 1) a"),
                ("2op", "2(x*D - 1)"), ("D*ox + of", "D*(x + 1) + (D^2)"), ("Dop", "D(x*D - 1)"), ("a+b", "a+b"), ("", ""), ("opDof", "(x*D - 1)D(D^2)"),
                ("x op x", "x (x*D - 1) x"), ("-op^-1", "-(x*D - 1)^-1")):
            self.assertEqual(full_text(NAMES, text), expected)

    def test_word_by_word(self):
        source = random.Random(240)
        for _ in range(200):
            text = "".join(source.choice(("op", "of", "ox", "opa", "x", "D", " ", "+", "(", "7", "*", "a")) for _ in range(source.randint(0, 12)))
            # The longest runs, told by a walk from the left.
            expected, at, known = "", 0, True
            while at < len(text):
                end = at
                while end < len(text) and text[end] in string.ascii_lowercase:
                    end += 1
                if end - at < 2:
                    expected += text[at]
                    at += 1
                else:
                    known = known and text[at:end] in NAMES
                    expected += "(" + NAMES.get(text[at:end], "") + ")"
                    at = end
            if known:
                self.assertEqual(full_text(NAMES, text), expected)
            else:
                with self.assertRaises(Refused) as held:
                    full_text(NAMES, text)
                self.assertEqual(held.exception.reason, "name")

    def test_refusals_in_their_order(self):
        names = {"long": "1" * 1998, "longer": "1" * 1999}
        self.assertEqual(len(full_text(names, "long")), 2000)
        for text, reason in (("longer", "long"), ("long+", "long"), ("longer + ab", "name"), ("ab + longer", "name"), ("ab", "name"), ("lon", "name"),
                             ("longers", "name"), ("x" * 13, "name"), ("let", "name"), (" " * 2001, "long")):
            with self.assertRaises(Refused) as held:
                full_text(names, text)
            self.assertEqual(held.exception.reason, reason, text)
        self.assertEqual(full_text(names, " " * 2000), " " * 2000)
        self.assertEqual(names, {"long": "1" * 1998, "longer": "1" * 1999})


class Lines(Refusals):
    def test_empty_lines_and_remarks(self):
        for line in ("", " ", " " * 2000, "#", "# solve D", "   # = ; let", "#op", "#" * 2000):
            self.assertEqual(read_line(NAMES, line), ("empty",))

    def test_each_form(self):
        d, x = operator("D"), read_function("x")
        self.assertEqual(read_line({}, "let ab = x*D - 1"), ("let", "ab", "x*D - 1"))
        self.assertEqual(read_line({}, "apply D ; x"), ("apply", d, x))
        for word in PAIRS:
            self.assertEqual(read_line({}, word + " D ; x"), (word, d, operator("x")))
        self.assertEqual(read_line({}, "solve D"), ("solve", d))
        for count in range(1, 6):
            self.assertEqual(read_line({}, "solve D" + " ; x" * count), ("solve", d) + (x,) * count)
        self.assertEqual(read_line({}, "products D"), ("products", d))
        self.assertIs(type(read_line({}, "solve D")), tuple)

    def test_operators_and_functions(self):
        self.assertIsInstance(read_line({}, "multiply x ; x")[2], Operator)
        self.assertEqual(read_line({}, "apply x ; x")[2], read_function("x"))
        self.assertEqual(read_line({}, "solve x ; 0")[2], read_function("0"))
        self.no_text("apply D ; D", 10)
        self.no_text("solve D ; x ; D", 14)
        self.assertEqual(read_line({}, "multiply D ; D")[2], operator("D"))

    def test_names_in_texts(self):
        self.assertEqual(read_line(NAMES, "solve op ; ox"), ("solve", operator("x*D - 1"), read_function("x + 1")))
        self.assertEqual(read_line(NAMES, "let of = of*op"), ("let", "of", "(D^2)*(x*D - 1)"))
        self.assertEqual(read_line(NAMES, "multiply 2*op ; opa"), ("multiply", operator("2*x*D - 2"), operator("7")))

    def test_spaces(self):
        expected = read_line({}, "apply D + 1 ; x - 2")
        for line in ("apply D + 1;x - 2", "   apply    D + 1   ;   x - 2   ", "apply D + 1 ;x - 2", "apply D + 1; x - 2", "apply  D  +  1;x-2"):
            self.assertEqual(read_line({}, line), expected)
        for line in ("let ab = D", "let ab=D", " let  ab  =  D ", "let ab =D", "let ab= D"):
            self.assertEqual(read_line({}, line), ("let", "ab", "D"))

    def test_other_letters(self):
        self.assertEqual(read_line({}, "apply t*D ; t^2", name="t"), ("apply", operator("x*D"), read_function("x^2")))
        self.no_text("apply t*D ; x^2", 12, name="t")
        self.no_text("apply t*D ; t^2", 6)
        self.assertEqual(read_line({}, "let ab = t", name="t"), ("let", "ab", "t"))

    def test_lengths(self):
        line = "solve x" + " " * 1993
        self.assertEqual(len(line), 2000)
        self.assertEqual(read_line({}, line), ("solve", operator("x")))
        self.no_text(line + " ", 0)
        self.assertEqual(read_line({}, " " * 1993 + "solve x"), ("solve", operator("x")))
        self.no_text(" " * 2001, 0)
        self.no_text("#" * 2001, 0)
        text = "(x" + " " * 1990 + ")"
        self.assertEqual(read_line({"ab": text}, "solve ab"), ("solve", operator("x")))
        self.refused("solve ab", "long", {"ab": "x" + " " * 1998})
        self.assertEqual(read_line({"ab": "x" + " " * 1997}, "solve ab"), ("solve", operator("x")))


class NoLines(Refusals):
    def test_values_that_are_no_lines(self):
        for value in others() + [b"solve x", ["solve x"], ("solve x",)]:
            if not isinstance(value, str) or value != "":
                self.no_text(value, 0)
        for line in ("solve x\n", "\nsolve x", "solve\tx", "solve x\u00e9", "solve x % 2", "# 100%", "%", "\x7f", "# \x1f", "solve x\r", "solve\u00a0x"):
            self.no_text(line, 0)
        self.assertEqual(read_line({}, "# ~}|{zyx!\"$&'()*+,-./:;<=>?@[\\]^_`"), ("empty",))

    def test_lines_of_no_form(self):
        for line in ("solve", "solve ", "let", "let op", "let op =", "let op = ", "let = D", "let = ", "let op D", "let x = D", "let D = x", "let let = D", "let opopopopopopo = D",
                     "let op op = D", "let Op = D", "let op = D = x", "let op = D ; x", "let op == D", "let ; op = D", "letop = D", "let solve = D", "op = D", "op", "D", "x", "x + 1",
                     "apply D", "apply D ;", "apply ; D", "apply D ; x ; x", "apply D = x", "apply D ; x = 1", "apply", "apply ;", "apply;D;x",
                     "multiply D", "multiply D ; D ; D", "multiply D ; ", "divide D D", "common D", "multiple ; ; ", "equal D = D", "equal D",
                     "solve D ;", "solve ; x", "solve D ; ; x", "solve D ; x ;", "solve D = x", "solve(D)", "solveD", "Solve D", "SOLVE D", "solve D" + " ; x" * 6,
                     "products", "products ", "products D ; x", "products D = 0", "product D", "empty", "empty D", "; solve D", "= x", "- solve D", "solve= D", "x # remark"):
            self.no_text(line, 0)
            self.no_text("  " + line + " ", 0)

    def test_numbers_of_texts(self):
        for word in PAIRS + ("apply",):
            read_line({}, word + " x ; x")
            for count in (1, 3, 4):
                self.no_text(word + " " + " ; ".join("x" * count), 0)
        for count in (2, 3):
            self.no_text("products " + " ; ".join("x" * count), 0)
            self.no_text("let op = " + " ; ".join("x" * count), 0)

    def test_a_form_comes_before_names(self):
        self.no_text("apply abc", 0)
        self.no_text("let abcdefghijklmn = abc", 0)


class Order(Refusals):
    def test_names_before_lengths(self):
        names = {"long": "x" + " " * 1998}
        self.refused("solve long ; ab", "name", names)
        self.refused("solve ab ; long", "name", names)
        self.refused("solve long ; x", "long", names)
        self.refused("solve x ; long", "long", names)

    def test_lengths_before_texts(self):
        names = {"long": "x" + " " * 1998}
        self.refused("solve x x ; long", "long", names)
        self.refused("solve long ; +", "long", names)
        self.refused("apply 1/0 ; long", "long", names)

    def test_names_before_texts(self):
        self.refused("solve + ; ab", "name")
        self.refused("solve 1/0 ; ab", "name")
        self.refused("apply x^99 ; abc", "name")

    def test_texts_from_the_left(self):
        self.no_text("solve + ; 1/0", 6)
        self.refused("solve 1/0 ; +", "zero")
        self.refused("solve D/x ; +", "operator")
        self.refused("solve 0^-1 ; 1/0", "zero")
        self.refused("multiply D^-1 ; 1/0", "operator")
        self.no_text("solve x ; 1 + ; +", 10)
        self.refused("apply D ; 1/(x - x)", "zero")
        self.refused("let ab = 1/0", "zero")
        self.refused("let ab = x/D", "operator")

    def test_positions(self):
        self.no_text("solve x +", 6)
        self.no_text("   solve    x +", 12)
        self.no_text("let ab = x +", 9)
        self.no_text("  let   ab=   (x", 14)
        self.no_text("apply D ; x x", 10)
        self.no_text("apply D;x x", 8)
        self.no_text("apply   D   ;    x x  ", 17)
        self.no_text("multiply a ; D", 9)
        self.no_text("multiply D ; y", 13)
        self.no_text("solve D ; x ; x ; x ; x ; .", 26)
        self.no_text("solve x^31", 6)
        self.no_text("products " + "(" * 41 + "x" + ")" * 41, 9)
        self.no_text("products " + "x*" * 100 + "x", 9)
        self.no_text("solve ab", 6, {"ab": "+"})
        self.no_text("solve x*op", 6, {"op": "x +"})
        self.refused("solve solve", "name")

    def test_definitions_are_read(self):
        self.no_text("let ab = x)", 9)
        self.no_text("let ab = #", 9)
        self.refused("let ab = ab", "name")
        self.assertEqual(read_line({"ab": "1"}, "let ab = ab"), ("let", "ab", "(1)"))


class Texts(unittest.TestCase):
    def test_spaces(self):
        self.assertEqual(space_text(Space(())), "0")
        self.assertEqual(space_text(Space((), size=2, sides=3)), "0")
        self.assertEqual(space_text(rational_space(operator("x^2*D^2 + x*D - 1"))), "[x] [1/x]")
        self.assertEqual(space_text(rational_space(operator("D"), functions_of("1/x", "1/x^2"))), "[-1/x ; 0 ; 1] [1 ; 0 ; 0]")
        space = Space([(functions_of("x + 1", "1/(x - 1)"), vector(Fraction(-1, 2)))], size=2, sides=1)
        self.assertEqual(space_text(space), "[-2*x - 2 ; -2/(x - 1) ; 1]")
        self.assertEqual(space_text(space, name="t"), "[-2*t - 2 ; -2/(t - 1) ; 1]")
        self.assertEqual(space_text(Space([(functions_of("0"), vector(2, 1))], sides=2)), "[0 ; 1 ; 1/2]")

    def test_products(self):
        product = PowerProduct([(ratio(s), Ratio(1, 2)) for s in (2, -3, 0, Fraction(1, 2), Fraction(-2, 3))])
        self.assertEqual(product_text(product), "(x + 3)^(1/2)*(x + 2/3)^(1/2)*x^(1/2)*(x - 1/2)^(1/2)*(x - 2)^(1/2)")
        self.assertEqual(product_text(product), str(product))
        self.assertEqual(product_text(product, name="s"), "(s + 3)^(1/2)*(s + 2/3)^(1/2)*s^(1/2)*(s - 1/2)^(1/2)*(s - 2)^(1/2)")
        self.assertEqual(product_text(PowerProduct(())), "1")
        self.assertEqual(product_text(PowerProduct([(Ratio(0), Ratio(5, 3))]), name="z"), "z^(2/3)")

    def test_texts_that_are_read_back(self):
        for text in ("x^2*D^2 + x*D - 1", "D^2 - 1/x"):
            for ys, _ in rational_space(read_operator(text)):
                self.assertEqual(read_function(space_text(Space([(ys, ())]))[1:-1]), ys[0])


if __name__ == "__main__":
    unittest.main()
