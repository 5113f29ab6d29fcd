import random
import unittest
from fractions import Fraction

from helpers import X, fraction, fun, others, poly, ratio, some_function, some_nonzero, some_poly, with_roots
from indicial.errors import Fault, Refused, ZeroDivisor
from indicial.poly import Poly, constant
from indicial.ratfun import RatFun, added, multiplied, of_poly, of_ratio, the_variable
from indicial.ratio import Ratio

ZERO = Poly(())
ONE = Poly((1,))
EVEN = poly(-2, 0, 1)
PLUS = poly(1, 0, 1)
NOTHING = RatFun(ZERO, ONE)
UNIT = RatFun(ONE, ONE)


def fields(f):
    return (f.num.row, f.den.row)


def samples(seed=21, count=25):
    source = random.Random(seed)
    found = [NOTHING, UNIT, fun((-3,)), fun((0, 1)), fun((1,), (0, 1)), fun((1, 1), (-2, 0, 1))]
    return found + [some_function(source) for _ in range(count - len(found))]


class Creation(unittest.TestCase):
    def test_lowest_terms(self):
        f = RatFun(with_roots(1, 2, 2).scaled(Ratio(3)), with_roots(2, 3).scaled(Ratio(-2)))
        self.assertEqual(f.num, with_roots(1, 2).scaled(Ratio(-3, 2)))
        self.assertEqual(f.den, with_roots(3))
        self.assertEqual(fields(RatFun(poly(4), poly(6))), (poly(Fraction(2, 3)).row, ONE.row))
        self.assertEqual(fields(RatFun(X * PLUS, X * EVEN)), fields(RatFun(PLUS, EVEN)))

    def test_zero(self):
        for den in (ONE, poly(-5), X, EVEN):
            f = RatFun(ZERO, den)
            self.assertEqual(fields(f), ((), ONE.row))
            self.assertIs(f.is_zero(), True)
        self.assertIs(UNIT.is_zero(), False)

    def test_zero_divisor(self):
        for num in (ZERO, ONE, X):
            with self.assertRaises(ZeroDivisor):
                RatFun(num, ZERO)

    def test_random(self):
        source = random.Random(22)
        for _ in range(60):
            num, den, common = some_poly(source, 4), some_nonzero(source, 4), some_nonzero(source, 3)
            f = RatFun(num * common, den * common)
            self.assertEqual(f.den.last(), Ratio(1))
            self.assertEqual(f.num * den, num * f.den)
            self.assertEqual(fields(f), fields(RatFun(num, den)))

    def test_equality(self):
        self.assertTrue(fun((2, 2), (2,)) == fun((1, 1)))
        self.assertTrue(fun((0, 1), (0, 0, 1)) == fun((1,), (0, 1)))
        self.assertFalse(fun((1,), (0, 1)) == fun((1,), (0, 0, 1)))
        self.assertFalse(fun((1,), (0, 1)) == fun((2,), (0, 1)))
        self.assertTrue(RatFun(ZERO, X) == NOTHING)
        for value in others():
            if not isinstance(value, RatFun):
                self.assertIs(UNIT == value, False)
                self.assertIs(NOTHING == value, False)

    def test_constructors(self):
        self.assertEqual(fields(of_poly(EVEN)), (EVEN.row, ONE.row))
        self.assertEqual(fields(of_ratio(Ratio(2, 3))), ((Ratio(2, 3),), ONE.row))
        self.assertEqual(fields(of_ratio(Ratio(0))), ((), ONE.row))
        self.assertEqual(fields(the_variable()), (X.row, ONE.row))


class Arithmetic(unittest.TestCase):
    def test_against_values(self):
        points = [Ratio(n, 7) for n in (-20, -3, 1, 5, 11, 40)]
        for f in samples():
            for g in samples(23, 12):
                before = (fields(f), fields(g))
                results = [f + g, f - g, f * g]
                results.append(NOTHING if g.is_zero() else f // g)
                for q in points:
                    a, b = f(q), g(q)
                    if a is None or b is None:
                        continue
                    a, b = fraction(a), fraction(b)
                    self.assertEqual([fraction(h(q)) for h in results[:3]], [a + b, a - b, a * b])
                    if b:
                        self.assertEqual(fraction(results[3](q)), a / b)
                for h in results:
                    self.assertEqual(fields(h), fields(RatFun(h.num, h.den)))
                self.assertEqual((fields(f), fields(g)), before)

    def test_cancellation(self):
        f, g = fun((1,), (0, 1)), fun((1,), (0, -1, 1))
        self.assertEqual(fields(f + g), fields(fun((1,), (-1, 1))))
        self.assertEqual(fields(f - f), fields(NOTHING))
        self.assertEqual(fields(g * of_poly(X)), fields(fun((1,), (-1, 1))))
        self.assertEqual(fields(f // g), fields(fun((-1, 1))))
        self.assertEqual(fields(fun((1,), (0, 2)) + fun((-1,), (0, 2))), fields(NOTHING))

    def test_negative(self):
        self.assertEqual(fields(-fun((1, -2), (0, 1))), fields(fun((-1, 2), (0, 1))))
        self.assertEqual(fields(-NOTHING), fields(NOTHING))

    def test_zero_divisors(self):
        for f in (NOTHING, UNIT, fun((0, 1))):
            with self.assertRaises(ZeroDivisor):
                f // NOTHING
        with self.assertRaises(ZeroDivisor):
            NOTHING.inverse()
        with self.assertRaises(ZeroDivisor):
            NOTHING.log_derivative()
        for k in (-1, -5):
            with self.assertRaises(ZeroDivisor):
                NOTHING.power(k)
        with self.assertRaises(Fault):
            NOTHING.inverse()

    def test_inverse_and_power(self):
        for f in samples():
            if f.is_zero():
                continue
            self.assertEqual(f * f.inverse(), UNIT)
            self.assertEqual(f.inverse().den.last(), Ratio(1))
            found = UNIT
            for k in range(5):
                self.assertEqual(f.power(k), found)
                self.assertEqual(f.power(-k) * found, UNIT)
                found = found * f
        self.assertEqual(NOTHING.power(0), UNIT)
        self.assertEqual(NOTHING.power(3), NOTHING)
        self.assertEqual(fun((0, 1)).power(-3), fun((1,), (0, 0, 0, 1)))

    def test_sums_and_products(self):
        for kind in (list, tuple):
            self.assertEqual(added(kind()), NOTHING)
            self.assertEqual(multiplied(kind()), UNIT)
            items = kind([fun((1,), (0, 1)), fun((0, 1)), fun((2, 1), (1, 1))])
            self.assertEqual(added(items), items[0] + items[1] + items[2])
            self.assertEqual(multiplied(items), fun((2, 1), (1, 1)))
            self.assertEqual(added(kind([fun((3,))])), fun((3,)))


class Values(unittest.TestCase):
    def test_values(self):
        f = fun((1, 1), (-2, 1))
        self.assertEqual(f(Ratio(0)), Ratio(-1, 2))
        self.assertEqual(f(Ratio(-1)), Ratio(0))
        self.assertIsNone(f(Ratio(2)))
        self.assertEqual(fun((0, 2), (0, 1))(Ratio(0)), Ratio(2))
        self.assertIsNone(fun((1,), (0, 1))(Ratio(0)))
        self.assertEqual(NOTHING(Ratio(5)), Ratio(0))
        self.assertEqual(fun((1,), (-2, 0, 1))(Ratio(3, 2)), Ratio(4))

    def test_as_constant(self):
        self.assertEqual(fun((3,), (2,)).as_constant(), Ratio(3, 2))
        self.assertEqual(NOTHING.as_constant(), Ratio(0))
        self.assertEqual(fun((0, 3), (0, 2)).as_constant(), Ratio(3, 2))
        self.assertIsNone(fun((0, 1)).as_constant())
        self.assertIsNone(fun((1,), (0, 1)).as_constant())
        self.assertIsNone(fun((1, 1), (2, 1)).as_constant())

    def test_is_polynomial(self):
        for f in (NOTHING, UNIT, fun((0, 1, 2), (3,)), fun((0, 0, 1), (0, 1))):
            self.assertIs(f.is_polynomial(), True)
        for f in (fun((1,), (0, 1)), fun((0, 0, 1), (1, 1))):
            self.assertIs(f.is_polynomial(), False)

    def test_shifted(self):
        for f in samples():
            for q in (Ratio(0), Ratio(1), Ratio(-2, 3)):
                found = f.shifted(q)
                self.assertEqual(fields(found), fields(RatFun(found.num, found.den)))
                for a in (Ratio(1, 5), Ratio(-4, 7), Ratio(9)):
                    left, right = found(a), f(a + q)
                    self.assertTrue(left == right or (left is None and right is None))
        self.assertEqual(fun((1,), (0, 1)).shifted(Ratio(2)), fun((1,), (2, 1)))


class Derivatives(unittest.TestCase):
    def test_derivative(self):
        self.assertEqual(fun((0, 0, 1)).derivative(), fun((0, 2)))
        self.assertEqual(fun((1,), (0, 1)).derivative(), fun((-1,), (0, 0, 1)))
        self.assertEqual(fun((1,), (0, 0, 0, 1)).derivative(), fun((-3,), (0, 0, 0, 0, 1)))
        self.assertEqual(fun((0, 1), (1, 0, 1)).derivative(), RatFun(poly(1, 0, -1), PLUS * PLUS))
        for f in (NOTHING, UNIT, of_ratio(Ratio(-7, 3))):
            self.assertEqual(f.derivative(), NOTHING)

    def test_quotient_rule(self):
        for f in samples():
            a, b = f.num, f.den
            expected = RatFun(a.derivative() * b - a * b.derivative(), b * b)
            self.assertEqual(fields(f.derivative()), fields(expected))

    def test_product_rule(self):
        for f, g in zip(samples(), samples(24)):
            self.assertEqual((f * g).derivative(), f.derivative() * g + f * g.derivative())

    def test_log_derivative(self):
        for f in samples():
            if not f.is_zero():
                self.assertEqual(f.log_derivative() * f, f.derivative())
        self.assertEqual(fun((0, 0, 0, 1)).log_derivative(), fun((3,), (0, 1)))
        self.assertEqual(UNIT.log_derivative(), NOTHING)


class Orders(unittest.TestCase):
    def test_one_order(self):
        f = RatFun(X.power(3) * PLUS, EVEN.power(2) * with_roots(1))
        self.assertEqual(f.order_at(X), 3)
        self.assertEqual(f.order_at(PLUS), 1)
        self.assertEqual(f.order_at(EVEN), -2)
        self.assertEqual(f.order_at(with_roots(1)), -1)
        self.assertEqual(f.order_at(with_roots(5)), 0)
        self.assertEqual(f.order_at(EVEN.scaled(Ratio(7))), -2)
        self.assertEqual(UNIT.order_at(X * PLUS), 0)

    def test_several_orders(self):
        f = RatFun(with_roots(1, 2, 2), with_roots(3, 4, 4, 5))
        for roots, order in (((1, 2), None), ((1,), 1), ((1, 3), None), ((3, 5), -1), ((3, 4), None),
                             ((1, 7), None), ((3, 7), None), ((7, 8), 0), ((2, 4), None)):
            self.assertEqual(f.order_at(with_roots(*roots)), order)
        self.assertEqual(RatFun(with_roots(1, 2).power(3), ONE).order_at(with_roots(1, 2)), 3)
        self.assertIsNone(RatFun(PLUS, ONE).order_at(PLUS * EVEN))

    def test_degree_and_leading(self):
        self.assertEqual(fun((1, 2), (1, 0, 0, 4)).degree(), -2)
        self.assertEqual(fun((1, 0, 2), (1, 4)).degree(), 1)
        self.assertEqual(fun((5,)).degree(), 0)
        self.assertEqual(fun((1, 2), (1, 0, 0, 4)).leading(), Ratio(1, 2))
        self.assertEqual(fun((5,)).leading(), Ratio(5))

    def test_zero_is_refused(self):
        for act in (lambda: NOTHING.order_at(X), NOTHING.degree, NOTHING.leading):
            with self.assertRaises(Refused) as held:
                act()
            self.assertEqual(held.exception.reason, "zero")


if __name__ == "__main__":
    unittest.main()
