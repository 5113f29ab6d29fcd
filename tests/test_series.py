import random
import unittest
from fractions import Fraction

from helpers import (
    fraction, fun, function, operator, others, poly, ratio, some_function, some_operator, vector)
from indicial.clear import cleared
from indicial.errors import Malformed, Refused
from indicial.local import Exponents, falling
from indicial.operator import Operator, annihilator
from indicial.poly import Poly, constant
from indicial.ratfun import of_poly
from indicial.ratio import Ratio
from indicial.series import Recurrence, agrees, expand, frobenius, solution

ZERO = Operator(())
POINTS = (ratio(0), ratio(1), ratio(-2), ratio(Fraction(1, 3)))


def reason(act):
    try:
        act()
    except Refused as error:
        return error.reason
    except Malformed:
        return "malformed"
    return None


def cleared_operator(a):
    return Operator([of_poly(p) for p in cleared(a, ())[0]])


def samples(seed, count=15, order=3):
    source = random.Random(seed)
    found = [some_operator(source, source.randint(0, order)) for _ in range(count)]
    return [a for a in found if not a.is_zero()]


class Expansion(unittest.TestCase):
    def test_examples(self):
        self.assertEqual(expand(function("1/(1 - x)"), ratio(0), 4), vector(1, 1, 1, 1))
        self.assertEqual(expand(function("x^2"), ratio(1), 5), vector(1, 2, 1, 0, 0))
        self.assertEqual(expand(function("1/x"), ratio(2), 3), vector(Fraction(1, 2), Fraction(-1, 4), Fraction(1, 8)))
        self.assertEqual(expand(function("x/(x^2 + 1)"), ratio(0), 6), vector(0, 1, 0, -1, 0, 1))
        self.assertEqual(expand(fun(()), ratio(7), 2), vector(0, 0))
        self.assertEqual(expand(function("x"), ratio(0), 0), ())

    def test_products_with_the_denominator(self):
        source = random.Random(110)
        for _ in range(25):
            f = some_function(source, 3)
            for a in POINTS:
                if f.den(a).is_zero():
                    continue
                series = expand(f, a, 8)
                self.assertEqual((type(series), len(series)), (tuple, 8))
                product = Poly(series) * f.den.shifted(a) - f.num.shifted(a)
                self.assertTrue(all(product.coefficient(k).is_zero() for k in range(8)))
                self.assertEqual(expand(f, a, 3), series[:3])

    def test_poles(self):
        for text, a in (("1/x", 0), ("1/(x^2 - 1)", -1), ("x/(2*x - 1)^2", Fraction(1, 2))):
            for count in (0, 1, 5):
                self.assertEqual(reason(lambda: expand(function(text), ratio(a), count)), "pole")
        self.assertIsNone(reason(lambda: expand(function("x/x"), ratio(0), 2)))


class Rules(unittest.TestCase):
    def test_examples(self):
        r = Recurrence(operator("D - 1"), ratio(0))
        self.assertEqual(list(r), [(0, poly(-1)), (1, poly(0, 1))])
        self.assertEqual((r.offsets(), r.first, r.final), ((0, 1), 0, 1))
        r = Recurrence(operator("x*D - 1"), ratio(0))
        self.assertEqual(list(r), [(0, poly(-1, 1))])
        r = Recurrence(operator("x*D^2 + D"), ratio(0))
        self.assertEqual((r.offsets(), r.rule(1)), ((1,), poly(0, 0, 1)))
        r = Recurrence(operator("x^3"), ratio(0))
        self.assertEqual(list(r), [(0, poly(1))])
        r = Recurrence(operator("x^3*D + 1"), ratio(0))
        self.assertEqual((r.offsets(), r.first, r.final), ((-2, 0), -2, 0))
        self.assertEqual([r.rule(j) for j in (-3, -2, -1, 0, 1, 99)],
                         [poly(), poly(0, 1), poly(), poly(1), poly(), poly()])

    def test_word_by_word(self):
        for operator_here in samples(111):
            for a in POINTS:
                polys = [p.shifted(a) for p in cleared(operator_here, ())[0]]
                rules = {}
                for i, p in enumerate(polys):
                    for m, number in enumerate(p.row):
                        rules[i - m] = rules.get(i - m, poly()) + falling(i).scaled(number)
                expected = [(j, rules[j]) for j in sorted(rules) if not rules[j].is_zero()]
                r = Recurrence(operator_here, a)
                self.assertEqual(list(r), expected)
                self.assertEqual(r.offsets(), tuple(j for j, _ in expected))
                self.assertIs(type(r.offsets()), tuple)
                self.assertEqual((r.first, r.final), (expected[0][0], expected[-1][0]))
                self.assertTrue(r.final <= operator_here.order())
                for j in range(-6, 6):
                    self.assertEqual(r.rule(j), dict(expected).get(j, poly()))

    def test_the_greatest_offset(self):
        for operator_here in samples(112):
            polys = cleared(operator_here, ())[0]
            for a in POINTS:
                e = Exponents(polys, Poly((-a, 1)))
                r = Recurrence(operator_here, a)
                self.assertEqual(r.final, -e.lowest)
                self.assertEqual(r.rule(r.final), Poly([row.coefficient(0) for row in e]))

    def test_image(self):
        source = random.Random(113)
        for operator_here in samples(114):
            exact = cleared_operator(operator_here)
            for a in POINTS:
                series = tuple(ratio(source.randint(-4, 4)) for _ in range(source.randint(0, 6)))
                image = exact(of_poly(Poly(series).shifted(-a))).num.shifted(a)
                found = Recurrence(operator_here, a).image(series, 12)
                self.assertEqual(found, tuple(image.coefficient(n) for n in range(12)))
                self.assertEqual(Recurrence(operator_here, a).image(series, 0), ())

    def test_equality(self):
        a = Recurrence(operator("D - 1"), ratio(0))
        self.assertTrue(a == Recurrence(operator("D - 1"), ratio(5)))
        self.assertTrue(a == Recurrence(operator("x*D - x"), ratio(0)))
        self.assertFalse(a == Recurrence(operator("2*D - 2"), ratio(0)))
        self.assertFalse(a == Recurrence(operator("D"), ratio(0)))
        self.assertFalse(Recurrence(operator("x*D - 1"), ratio(0)) == Recurrence(operator("x*D - 1"), ratio(1)))
        for value in others():
            self.assertIs(a == value, False)

    def test_zero(self):
        self.assertEqual(reason(lambda: Recurrence(ZERO, ratio(0))), "zero")


class Solutions(unittest.TestCase):
    def test_examples(self):
        self.assertEqual(solution(operator("D - 1"), ratio(0), vector(1), 4), vector(1, 1, Fraction(1, 2), Fraction(1, 6)))
        self.assertEqual(solution(operator("D^2 + 1"), ratio(3), vector(0, 1), 6),
                         vector(0, 1, 0, Fraction(-1, 6), 0, Fraction(1, 120)))
        self.assertEqual(solution(operator("D"), ratio(1), vector(0), 4, right=function("1/x")),
                         vector(0, 1, Fraction(-1, 2), Fraction(1, 3)))
        self.assertEqual(solution(operator("x*D"), ratio(1), vector(0), 3, right=function("1")), vector(0, 1, Fraction(-1, 2)))

    def test_rational_solutions(self):
        source = random.Random(115)
        for _ in range(20):
            y, u = some_function(source), some_function(source)
            if y.is_zero():
                continue
            homogeneous = operator("D + x") * annihilator(y)
            forced = some_operator(source, 2)
            for a in POINTS:
                if y.den(a).is_zero():
                    continue
                series = expand(y, a, 9)
                if reason(lambda: solution(homogeneous, a, series[:2], 9)) is None:
                    self.assertEqual(solution(homogeneous, a, series[:2], 9), series)
                if forced.is_zero():
                    continue
                right = forced(y)
                initial = series[:forced.order()]
                if reason(lambda: solution(forced, a, initial, 9, right=right)) is None:
                    self.assertEqual(solution(forced, a, initial, 9, right=right), series)

    def test_right_side_zero(self):
        a = operator("(x + 1)*D^2 - 1")
        for count in range(7):
            self.assertEqual(solution(a, ratio(0), vector(1, 2), count, right=fun(())),
                             solution(a, ratio(0), vector(1, 2), count))

    def test_a_count_below_the_order(self):
        full = solution(operator("D^3 - x"), ratio(0), vector(4, 5, 6), 8)
        for count in range(9):
            self.assertEqual(solution(operator("D^3 - x"), ratio(0), vector(4, 5, 6), count), full[:count])

    def test_order_zero(self):
        self.assertEqual(solution(operator("x"), ratio(0), (), 3), vector(0, 0, 0))
        self.assertEqual(solution(operator("x - 1"), ratio(0), (), 3, right=function("1")), vector(-1, -1, -1))
        self.assertEqual(solution(operator("x"), ratio(0), (), 3, right=function("x + x^2")), vector(1, 1, 0))
        self.assertEqual(reason(lambda: solution(operator("x"), ratio(0), (), 0, right=function("1"))), "pole")

    def test_ordinary_points(self):
        # A common factor of the coefficients does not matter, nor one of the right side.
        self.assertEqual(solution(operator("x*D - x"), ratio(0), vector(1), 3), vector(1, 1, Fraction(1, 2)))
        self.assertEqual(solution(operator("x*D"), ratio(0), vector(0), 3, right=function("x")), vector(0, 1, 0))
        self.assertEqual(solution(operator("1/x*D"), ratio(0), vector(1), 4, right=function("1")), vector(1, 0, Fraction(1, 2), 0))

    def test_refusals(self):
        d, x = operator("D"), operator("x*D - 1")
        pole = function("1/x")
        for act, expected in (
                (lambda: solution(ZERO, ratio(0), vector(1), 3), "zero"), (lambda: solution(ZERO, ratio(0), (), 0, right=pole), "zero"),
                (lambda: solution(d, ratio(0), (), 3), "malformed"), (lambda: solution(d, ratio(0), vector(1, 2), 3), "malformed"),
                (lambda: solution(x, ratio(0), vector(1, 2), 3), "malformed"), (lambda: solution(x, ratio(0), vector(1), 3), "singular"),
                (lambda: solution(x, ratio(0), vector(1), 0, right=pole), "singular"),
                (lambda: solution(x, ratio(0), (), 0, right=pole), "malformed"),
                (lambda: solution(d, ratio(0), vector(1), 3, right=pole), "pole"),
                (lambda: solution(d, ratio(0), vector(1), 0, right=pole), "pole"),
                (lambda: solution(d, ratio(0), vector(1), 1, right=pole), "pole"),
                (lambda: solution(operator("x*D - x"), ratio(0), vector(1), 0, right=function("1")), "pole"),
                (lambda: solution(operator("x*D - x"), ratio(0), vector(1), 0, right=function("x")), None),
                (lambda: solution(x, ratio(1), vector(1), 3), None)):
            self.assertEqual(reason(act), expected)


class Frobenius(unittest.TestCase):
    def test_examples(self):
        self.assertEqual(frobenius(operator("x*D - 1"), ratio(0), ratio(1), 3), vector(1, 0, 0))
        self.assertEqual(frobenius(operator("2*x*D - 1"), ratio(0), ratio(Fraction(1, 2)), 3), vector(1, 0, 0))
        self.assertEqual(frobenius(operator("x^2*D^2 + x*D - 1"), ratio(0), ratio(1), 3), vector(1, 0, 0))
        self.assertEqual(frobenius(operator("D - 1"), ratio(4), ratio(0), 4), vector(1, 1, Fraction(1, 2), Fraction(1, 6)))
        # The Bessel functions of order 0 and 1/2.
        self.assertEqual(frobenius(operator("x^2*D^2 + x*D + x^2"), ratio(0), ratio(0), 5),
                         vector(1, 0, Fraction(-1, 4), 0, Fraction(1, 64)))
        self.assertEqual(frobenius(operator("x^2*D^2 + x*D + x^2 - 1/4"), ratio(0), ratio(Fraction(1, 2)), 5),
                         vector(1, 0, Fraction(-1, 6), 0, Fraction(1, 120)))

    def test_counts(self):
        a = operator("x*D - 1 - x")
        for count in range(6):
            self.assertEqual(frobenius(a, ratio(0), ratio(1), count),
                             vector(1, 1, Fraction(1, 2), Fraction(1, 6), Fraction(1, 24))[:count])

    def test_powers_times_functions(self):
        source = random.Random(116)
        for _ in range(25):
            y = some_function(source)
            for a in POINTS[:2]:
                if y.is_zero() or y.den(a).is_zero() or y.num(a).is_zero():
                    continue
                e = Ratio(source.randint(-6, 6), source.choice((1, 2, 3)))
                power = of_poly(constant(e)) // of_poly(Poly((-a, 1)))
                series = expand(y, a, 7)
                found = frobenius(operator("D") - Operator((y.log_derivative() + power,)), a, e, 7)
                self.assertEqual([fraction(c) * fraction(series[0]) for c in found], [fraction(c) for c in series])

    def test_refusals(self):
        for text, a, e, expected in (
                ("0", 0, 0, "zero"), ("x*D - 1", 0, 0, "exponent"), ("x*D - 1", 0, 2, "exponent"), ("x^2*D - 1", 0, 0, "exponent"),
                ("x^2*D^2 + x*D - 1", 0, -1, "resonance"), ("D^2", 0, 0, "resonance"), ("D^2", 0, 1, None), ("D^2", 0, 2, "exponent"),
                ("x", 0, 0, "exponent"), ("x^2*D^2 - 1/4*x*D + 1/4", 0, Fraction(1, 4), None),
                ("4*x^2*D^2 - 8*x*D + 5", 0, Fraction(1, 2), "resonance"), ("4*x^2*D^2 - 8*x*D + 5", 0, Fraction(5, 2), None)):
            for count in (0, 3):
                self.assertEqual(reason(lambda: frobenius(operator(text), ratio(a), ratio(e), count)), expected, (text, e))


class Agreement(unittest.TestCase):
    def test_solutions_agree(self):
        source = random.Random(117)
        for _ in range(12):
            y = some_function(source)
            if y.is_zero():
                continue
            a = some_operator(source, 1) * annihilator(y)
            if a.is_zero():
                continue
            for point in POINTS:
                if y.den(point).is_zero():
                    continue
                series = expand(y, point, 9)
                for count in range(10):
                    self.assertIs(agrees(a, point, series[:count]), True)

    def test_what_the_series_settles(self):
        # For D the coefficient at n - 1 is n y_n.
        self.assertIs(agrees(operator("D"), ratio(0), vector(5)), True)
        self.assertIs(agrees(operator("D"), ratio(0), vector(5, 1)), False)
        self.assertIs(agrees(operator("D"), ratio(0), vector(5, 0, 0, 1)), False)
        self.assertIs(agrees(operator("D^2"), ratio(0), vector(5, 1)), True)
        self.assertIs(agrees(operator("D^3"), ratio(0), ()), True)
        self.assertIs(agrees(operator("D - 1"), ratio(2), vector(1, 1, Fraction(1, 2))), True)
        self.assertIs(agrees(operator("D - 1"), ratio(2), vector(1, 1, 1)), False)
        self.assertIs(agrees(operator("x*D - 1"), ratio(0), vector(0, 3, 0)), True)
        self.assertIs(agrees(operator("x*D - 1"), ratio(0), vector(1)), False)
        # Here the greatest offset is 0, of the operator without the common factor x.
        self.assertIs(agrees(operator("x^2*D + 1"), ratio(0), vector(0, 0)), True)
        self.assertIs(agrees(operator("x^2*D + 1"), ratio(0), vector(0, 1)), False)
        self.assertIs(agrees(operator("x^3*D + x"), ratio(0), vector(0, 1)), False)

    def test_word_by_word(self):
        source = random.Random(118)
        seen = set()
        for a in samples(119, 40, 2):
            r = Recurrence(a, ratio(0))
            for size in range(5):
                series = tuple(ratio(source.choice((0, 0, 0, 1))) for _ in range(size))
                image = r.image(series, 30)
                expected = all(image[n].is_zero() for n in range(30) if n + r.final < size)
                self.assertIs(agrees(a, ratio(0), series), expected)
                seen.add(expected)
        self.assertEqual(seen, {True, False})

    def test_zero(self):
        self.assertEqual(reason(lambda: agrees(ZERO, ratio(0), vector(1))), "zero")


if __name__ == "__main__":
    unittest.main()
