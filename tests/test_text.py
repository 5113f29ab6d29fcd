import random
import re
import unittest

from helpers import X, fun, poly, ratio, some_function, some_operator, some_poly
from indicial.errors import NoText, Refused
from indicial.operator import Operator, derivation, of_function
from indicial.poly import Poly, constant, monomial
from indicial.ratfun import of_poly, of_ratio, the_variable
from indicial.ratio import Ratio
from indicial.text import read_function, read_operator, show_function, show_operator, show_poly

D = derivation()
x = of_function(the_variable())


def number(n):
    return of_function(of_ratio(ratio(n)))


class Value:
    """An operator that Python itself can evaluate texts with: `**` binds as `^` does."""

    def __init__(self, operator):
        self.operator = operator

    def function(self):
        if self.operator.order() > 0:
            raise Refused("operator")
        return self.operator[0]

    def __add__(self, other):
        return Value(self.operator + other.operator)

    def __sub__(self, other):
        return Value(self.operator - other.operator)

    def __mul__(self, other):
        return Value(self.operator * other.operator)

    def __neg__(self):
        return Value(-self.operator)

    def __truediv__(self, other):
        above, below = self.function(), other.function()
        if below.is_zero():
            raise Refused("zero")
        return Value(of_function(above // below))

    def __pow__(self, k):
        if k >= 0:
            return Value(self.operator.power(k))
        if self.function().is_zero():
            raise Refused("zero")
        return Value(of_function(self.function().power(k)))


def evaluated(text):
    source = re.sub(r"(\^ *-? *)?\b([0-9]+)", lambda m: m[0] if m[1] else f"N({m[2]})", text)
    names = {"N": lambda n: Value(number(n)), "x": Value(x), "D": Value(D)}
    return eval(source.replace("^", "**"), names).operator


def some_text(source, depth, letters):
    kind = source.randint(0, 7) if depth > 0 else 0
    if kind < 2:
        return source.choice(list(letters) + [str(source.randint(0, 30))])
    if kind == 2:
        return "-" + some_text(source, 0, letters)
    if kind == 3:
        return f"({some_text(source, depth - 1, letters)})^{source.choice(['', '-'])}{source.randint(0, 3)}"
    left, right = some_text(source, depth - 1, letters), some_text(source, depth - 1, letters)
    space = source.choice(["", " "])
    inside = f"{left}{space}{'+-*/'[kind - 4]}{space}{right}"
    return f"({inside})" if source.random() < 0.6 else inside


class Failed(Exception):
    pass


class Descent:
    """The grammar of point 4.4 word by word, without weights; `error` is the index of point 4.7."""

    def __init__(self, text, letters):
        self.tokens = []
        at = 0
        while at < len(text):
            if text[at] == " ":
                at += 1
                continue
            found = re.match("[1-9][0-9]{0,99}|[0-9]|[-+*/^()]|[" + letters + "]", text[at:])
            self.tokens.append((found[0] if found else "?", at))
            at += len(found[0]) if found else len(text)
        self.tokens.append(("", len(text)))
        self.k = 0
        self.depth = 0
        self.minus = 0
        try:
            self.read_sum()
            self.take(lambda word: word == "")
            self.error = None
        except Failed as failed:
            self.error = failed.args[0]

    def word(self):
        return self.tokens[self.k][0]

    def take(self, test):
        word, at = self.tokens[self.k]
        if not test(word):
            raise Failed(at)
        self.k += 1

    def read_sum(self):
        self.read_term()
        while self.word() in ("+", "-"):
            self.k += 1
            self.read_term()

    def read_term(self):
        self.read_factor()
        while self.word() in ("*", "/"):
            self.k += 1
            self.read_factor()

    def read_factor(self):
        self.minus = 0
        while self.word() == "-":
            self.take(lambda word: self.minus < 40)
            self.minus += 1
        self.read_power()

    def read_power(self):
        self.read_atom()
        if self.word() == "^":
            self.k += 1
            if self.word() == "-":
                self.k += 1
            self.take(lambda word: word.isdigit() and int(word) <= 30)

    def read_atom(self):
        if self.word() == "(":
            self.take(lambda word: self.depth < 40)
            self.depth += 1
            self.read_sum()
            self.take(lambda word: word == ")")
            self.depth -= 1
        else:
            self.take(lambda word: word.isalnum())


def outcome(act):
    """What a call leads to: the value, or the error with its words."""
    try:
        return act()
    except NoText as error:
        return ("text", error.at)
    except Refused as error:
        return ("refused", error.reason)


class Reading(unittest.TestCase):
    def same(self, text, expected):
        self.assertEqual(outcome(lambda: read_operator(text)), expected, text)

    def test_examples(self):
        f = read_function("(x^2 - 1)/(2*x - 2) + 1/x")
        self.assertEqual(f, fun((2, 1, 1), (0, 2)))
        self.assertEqual(show_function(f), "(1/2*x^2 + 1/2*x + 1)/x")
        self.assertEqual(show_operator(read_operator("D*x - 3")), "(x)*D + (-2)")
        with self.assertRaises(NoText) as held:
            read_function("x^-31")
        self.assertEqual(held.exception.at, 3)

    def test_kinds(self):
        self.assertIs(type(read_operator("0")), Operator)
        self.assertEqual(read_operator("0"), Operator(()))
        self.assertEqual(read_function("0"), of_ratio(Ratio(0)))
        self.assertEqual(read_function("x"), the_variable())
        self.assertEqual(read_function("70"), of_ratio(Ratio(70)))

    def test_grammar(self):
        for text, expected in (
                ("1 - 2 - 3", number(-4)), ("8/4/2", number(1)), ("8/4*2", number(4)), ("2*x^2", x * x + x * x),
                ("-x^2", -(x * x)), ("-2^2", number(-4)), ("2^-1", read_operator("1/2")), ("2 ^ - 1*2", number(1)),
                ("--x", x), ("2*-3", number(-6)), ("2--3", number(5)), ("-x*x", -(x * x)), ("D*x", D * x),
                ("x*D", x * D), ("D^2*x", D * D * x), ("(D*x)^2", D * x * D * x), ("(x + 1)*(x - 1)", x * x - number(1)),
                ("-(x - 1)", number(1) - x), ("  x ", x), ("((x))", x), ("x^0", number(1)), ("1/2/x", read_operator("1/(2*x)")),
                ("1-1", Operator(())), ("D - D", Operator(()))):
            self.same(text, expected)

    def test_random_texts(self):
        source = random.Random(60)
        for letters in ("x", "xD"):
            for _ in range(400):
                text = some_text(source, 3, letters)
                self.same(text, outcome(lambda: evaluated(text)))

    def test_random_strings(self):
        source = random.Random(61)
        for letters, read in (("x", read_function), ("xD", read_operator)):
            for _ in range(1500):
                words = [source.choice("x D ( ( ) ) + - - * / ^ ^ 0 1 23 31 007 & y % \n".split(" "))
                         for _ in range(source.randint(0, 7))]
                text = source.choice(["", " "]).join(words)
                error = Descent(text, letters).error
                found = outcome(lambda: read(text))
                if error is None:
                    self.assertFalse(isinstance(found, tuple) and found[0] == "text", text)
                else:
                    self.assertEqual(found, ("text", error), text)

    def test_tokens_that_cannot_stand(self):
        for text, at in (
                ("", 0), ("   ", 3), ("x +", 3), ("x + ", 4), ("+x", 0), ("x x", 2), ("2x", 1), ("x2", 1), ("(x", 2), ("x)", 1),
                ("()", 1), ("x*/x", 2), ("x^x", 2), ("x^", 2), ("x^-", 3), ("x^--1", 3), ("x^(2)", 2), ("x^2^2", 3),
                ("x^2 3", 4), ("01", 1), ("00", 1), ("1 2", 2), ("x^02", 3), ("x^31", 2), ("x^ - 100", 5), ("x^30 + x^31", 9),
                ("y", 0), ("x%2", 1), ("x\n", 1), ("x\t", 1), ("X", 0), ("d", 0), ("x + $", 4), ("x $ +", 2), ("$" * 3000, 0),
                ("\u00e9", 0), ("x\u00b2", 1), ("\u0663", 0), ("x^*y", 2)):
            self.same(text, ("text", at))

    def test_functions_have_no_derivation(self):
        for text, at in (("D", 0), ("x + D", 4), ("x*(1 + D)", 7), ("x D", 2), ("(D", 1)):
            self.assertEqual(outcome(lambda: read_function(text)), ("text", at))

    def test_long_numbers(self):
        digits = "9" * 100
        self.assertEqual(read_function(digits), of_ratio(Ratio(10 ** 100 - 1)))
        self.same(digits + "9", ("text", 100))
        self.same(digits + "0", ("text", 100))
        self.same("x + " + digits + "1", ("text", 104))
        self.same("x^" + digits, ("text", 2))

    def test_open_parentheses(self):
        self.same("(" * 40 + "x" + ")" * 40, x)
        self.same("(" * 41 + "x" + ")" * 41, ("text", 40))
        self.same("x*" + "(" * 41, ("text", 42))
        self.same("(" * 40 + "x" + ")" * 40 + "*" + "(" * 40 + "x" + ")" * 40, x * x)
        self.same("(" * 40, ("text", 40))

    def test_minus_signs_in_a_row(self):
        self.same("-" * 40 + "x", x)
        self.same("- " * 40 + "x", x)
        self.same("-" * 41 + "x", ("text", 40))
        self.same("1 -" + "-" * 40 + "x", number(1) - x)
        self.same("1 -" + "-" * 41 + "x", ("text", 43))
        self.same("-" * 40 + "(" + "-" * 40 + "x)", x)
        self.same("-" * 39 + "x - x", -x - x)

    def test_exponents(self):
        self.assertEqual(read_function("x^30"), of_poly(monomial(1, 30)))
        self.assertEqual(read_function("x^-30"), of_poly(monomial(1, 30)).inverse())
        self.assertEqual(read_operator("D^30"), D.power(30))

    def test_a_text_longer_than_the_limit_is_read(self):
        self.same("x" + " " * 3000, x)

    def test_name(self):
        self.assertEqual(read_function("t^2 + 1", name="t"), fun((1, 0, 1)))
        self.assertEqual(read_operator("D*t", name="t"), D * x)
        self.assertEqual(outcome(lambda: read_operator("t + x", name="t")), ("text", 4))
        self.assertEqual(outcome(lambda: read_operator("t")), ("text", 0))


class Weight(unittest.TestCase):
    def weighs(self, text, weight):
        """A product with a number behind it makes the text weigh 200, then 201."""
        rest = 200 - weight - 1
        more = "*1" if rest == 1 else "*" + "9" * min(rest, 100) + ("*" + "9" * (rest - 101) if rest > 101 else "")
        self.assertNotIsInstance(outcome(lambda: read_operator(text + more)), tuple, text)
        self.assertEqual(outcome(lambda: read_operator(text + more + "9")), ("text", len(text + more) + 1), text)

    def test_weights(self):
        for text, weight in (("x", 1), ("D", 1), ("123", 3), ("x + 1", 3), ("x - D", 3), ("x*12", 4), ("1/x", 3), ("-x", 2),
                             ("--x", 3), ("x^5", 6), ("x^0", 1), ("x^-5", 6), ("(x + 1)^4", 13), ("((x))", 1), ("-(x^2)", 4),
                             ("(x^3)^4", 17), ("x^-0", 1)):
            self.weighs(text, weight)

    def test_bound(self):
        self.assertEqual(read_operator("+".join(["x"] * 100)), read_operator("100*x"))
        self.assertEqual(outcome(lambda: read_operator("+".join(["x"] * 101))), ("text", 201))
        self.assertEqual(outcome(lambda: read_operator("((x^30)^30)^30 ")), ("text", 15))
        self.assertEqual(outcome(lambda: read_operator("(x + D)^30*(x + D)^30*(x + D)^30")), ("text", 32))

    def test_errors_in_the_text_come_first(self):
        self.assertEqual(outcome(lambda: read_operator("((x^30)^30)^30 + y")), ("text", 17))
        self.assertEqual(outcome(lambda: read_operator("((x^30)^30)^30/(1/0)")), ("text", 20))


class Refusals(unittest.TestCase):
    def test_quotients(self):
        for text, reason in (("D/x", "operator"), ("x/D", "operator"), ("D/D", "operator"), ("x/0", "zero"), ("0/0", "zero"),
                             ("D/0", "operator"), ("1/(x - x)", "zero"), ("1/(D - D)", "zero"), ("x/(D*x)", "operator"),
                             ("(1/0)/D", "zero"), ("(D/x)/0", "operator"), ("(1/0)*(D/x)", "zero"), ("(D/x)*(1/0)", "operator")):
            self.assertEqual(outcome(lambda: read_operator(text)), ("refused", reason), text)

    def test_powers(self):
        for text, reason in (("D^-1", "operator"), ("0^-1", "zero"), ("(x - x)^-2", "zero"), ("(D - D)^-2", "zero"),
                             ("(x*D)^-1", "operator"), ("(1/0)^0", "zero"), ("(D/x)^-0", "operator")):
            self.assertEqual(outcome(lambda: read_operator(text)), ("refused", reason), text)

    def test_the_exponent_zero(self):
        for text in ("0^0", "0^-0", "x^0", "D^0", "D^-0", "(D + x)^-0"):
            self.assertEqual(read_operator(text), number(1), text)

    def test_functions_by_their_value(self):
        self.assertEqual(read_operator("(D - D + x)/x"), number(1))
        self.assertEqual(read_operator("(D*x - x*D)/2"), read_operator("1/2"))
        self.assertEqual(read_operator("(D - D + x)^-1"), read_operator("1/x"))

    def test_functions_are_refused_likewise(self):
        for text in ("1/0", "x/(x - x)", "0^-3", "(1/0)^0"):
            self.assertEqual(outcome(lambda: read_function(text)), ("refused", "zero"), text)


class Showing(unittest.TestCase):
    def test_polynomials(self):
        for row, text in (((), "0"), ((1,), "1"), ((-1,), "-1"), ((0, 1), "x"), ((0, -1), "-x"), ((0, 0, 1), "x^2"),
                          ((1, 1), "x + 1"), ((-1, 1), "x - 1"), ((-1, -1), "-x - 1"), ((0, 2), "2*x"), ((0, 0, -3), "-3*x^2"),
                          ((2, 0, 0, 1), "x^3 + 2"), ((0, -1, 0, 1), "x^3 - x")):
            self.assertEqual(show_poly(poly(*row)), text)
        half = Ratio(-1, 2)
        self.assertEqual(show_poly(Poly((half, half, half))), "-1/2*x^2 - 1/2*x - 1/2")
        self.assertEqual(show_poly(constant(Ratio(3, 4))), "3/4")

    def test_functions(self):
        for f, text in ((fun(()), "0"), (fun((1, 1)), "x + 1"), (fun((1,), (0, 1)), "1/x"), (fun((-1,), (0, 2)), "-1/2/x"),
                        (fun((0, 3), (1, 1)), "3*x/(x + 1)"), (fun((1, 1), (0, 0, 1)), "(x + 1)/x^2"),
                        (fun((1, 1), (-1, 1)), "(x + 1)/(x - 1)")):
            self.assertEqual(show_function(f), text)

    def test_operators(self):
        one = fun((1,))
        for coefficients, text in (
                ((), "0"), ((one,), "(1)"), ((fun(()), one), "D"), ((fun(()), -one), "(-1)*D"), ((one, one), "D + (1)"),
                ((fun(()), fun(()), one), "D^2"), ((fun((1, 1)), fun(()), fun((0, 1))), "(x)*D^2 + (x + 1)"),
                ((fun((1,), (0, 1)),), "(1/x)")):
            self.assertEqual(show_operator(Operator(coefficients)), text)

    def test_name(self):
        self.assertEqual(show_poly(X, name="t"), "t")
        self.assertEqual(show_function(fun((1,), (0, 0, 2)), name="z"), "1/2/z^2")
        self.assertEqual(show_operator(x * D + x, name="t"), "(t)*D + (t)")

    def test_long_numbers(self):
        text = show_poly(constant(Ratio(10 ** 5000)))
        self.assertEqual((len(text), text[:2]), (5001, "10"))

    def test_reading_gives_back(self):
        source = random.Random(62)
        for _ in range(60):
            name = source.choice("xtz")
            p = some_poly(source, 5, 30)
            self.assertEqual(read_function(show_poly(p, name=name), name=name), of_poly(p))
            f = some_function(source, 3)
            self.assertEqual(read_function(show_function(f, name=name), name=name), f)
            self.assertEqual(read_operator(show_function(f)), of_function(f))
            a = some_operator(source, source.randint(0, 3))
            self.assertEqual(read_operator(show_operator(a, name=name), name=name), a)


if __name__ == "__main__":
    unittest.main()
