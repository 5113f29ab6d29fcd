import random
import unittest
from fractions import Fraction
from math import gcd

from helpers import X, fraction, fractions_of, others, poly, ratio, some_nonzero, some_poly, with_roots
from indicial.errors import Fault, ZeroDivisor
from indicial.poly import Poly, constant, monomial, product, variable
from indicial.ratio import Ratio

ZERO = Poly(())
ONE = Poly((1,))


def samples():
    source = random.Random(7)
    found = [ZERO, ONE, poly(-3), poly(Fraction(1, 2)), X, poly(0, 0, 4), poly(1, 1), poly(-1, 0, 1)]
    for degree in range(7):
        found.extend(some_poly(source, degree) for _ in range(2))
    return found


def plain_product(a, b):
    found = [Fraction(0)] * max(0, len(a) + len(b) - 1)
    for i, left in enumerate(a):
        for j, right in enumerate(b):
            found[i + j] += left * right
    return found


def value(p, a):
    return sum((number * a ** k for k, number in enumerate(fractions_of(p))), Fraction(0))


class Creation(unittest.TestCase):
    def test_rows(self):
        self.assertEqual(Poly((1, Ratio(1, 2), 3)).row, (Ratio(1), Ratio(1, 2), Ratio(3)))
        self.assertEqual(Poly([0, 0, 2, 0, Ratio(0)]).row, (Ratio(0), Ratio(0), Ratio(2)))
        for row in ((), [], (0,), [0, Ratio(0)]):
            self.assertEqual(Poly(row).row, ())
        self.assertIs(type(Poly([1]).row), tuple)
        self.assertTrue(all(isinstance(number, Ratio) for number in Poly([1, 2]).row))

    def test_argument_stays(self):
        row = [1, Ratio(1, 2), 0]
        p = Poly(row)
        self.assertEqual(row, [1, Ratio(1, 2), 0])
        row[0] = 5
        self.assertEqual(p.row, (Ratio(1), Ratio(1, 2)))

    def test_equality(self):
        self.assertTrue(Poly((1, 2)) == Poly([Ratio(2, 2), 2, 0]))
        self.assertFalse(poly(1, 2) == poly(1, 3))
        self.assertFalse(poly(1, 2) == poly(Fraction(1, 2), 1))
        self.assertFalse(poly(1, 2) == poly(1, 2, 3))
        self.assertTrue(ZERO == Poly([0]))
        for other in others():
            if not isinstance(other, Poly):
                self.assertIs(ONE == other, False)
                self.assertIs(ZERO == other, False)
        self.assertFalse(poly(1, 2) == poly(1, 2).row)

    def test_constructors(self):
        self.assertEqual(constant(Ratio(2, 3)).row, (Ratio(2, 3),))
        self.assertEqual(constant(Ratio(0)).row, ())
        self.assertEqual(variable().row, (Ratio(0), Ratio(1)))
        self.assertEqual(monomial(Ratio(5), 0).row, (Ratio(5),))
        self.assertEqual(monomial(Ratio(1, 2), 3).row, (Ratio(0), Ratio(0), Ratio(0), Ratio(1, 2)))
        self.assertEqual(monomial(Ratio(0), 3).row, ())

    def test_product(self):
        for kind in (list, tuple):
            self.assertEqual(product(kind()), ONE)
            self.assertEqual(product(kind([X, poly(1, 1), poly(2)])), poly(0, 2, 2))
            self.assertEqual(product(kind([X, ZERO])), ZERO)


class Parts(unittest.TestCase):
    def test_degree_and_last(self):
        for degree in range(5):
            p = monomial(Ratio(3, 2), degree) + (ONE if degree else ZERO)
            self.assertEqual(p.degree(), degree)
            self.assertEqual(p.last(), Ratio(3, 2))
            self.assertIs(p.is_zero(), False)
        self.assertEqual(ZERO.degree(), -1)
        self.assertIs(ZERO.is_zero(), True)
        with self.assertRaises(ZeroDivisor):
            ZERO.last()
        with self.assertRaises(Fault):
            ZERO.last()

    def test_coefficient(self):
        p = poly(1, 0, Fraction(5, 2))
        self.assertEqual([p.coefficient(k) for k in (-4, -3, -1, 0, 1, 2, 3, 40)],
                         [Ratio(0)] * 3 + [Ratio(1), Ratio(0), Ratio(5, 2)] + [Ratio(0)] * 2)
        self.assertEqual(ZERO.coefficient(0), Ratio(0))
        self.assertEqual(ZERO.coefficient(-1), Ratio(0))

    def test_terms(self):
        self.assertEqual(list(poly(0, 3, 0, Fraction(-1, 2)).terms()), [(1, Ratio(3)), (3, Ratio(-1, 2))])
        self.assertEqual(list(ZERO.terms()), [])
        self.assertEqual(list(poly(4).terms()), [(0, Ratio(4))])
        self.assertEqual(type(X.terms()).__name__, "generator")

    def test_iteration(self):
        self.assertEqual(list(poly(0, 3)), [Ratio(0), Ratio(3)])
        self.assertEqual(list(ZERO), [])
        self.assertEqual(tuple(poly(1, 0, 2)), poly(1, 0, 2).row)


class Arithmetic(unittest.TestCase):
    def test_sum_difference_product(self):
        for p in samples():
            for q in samples():
                a, b = fractions_of(p), fractions_of(q)
                size = max(len(a), len(b))
                left = a + [Fraction(0)] * (size - len(a))
                right = b + [Fraction(0)] * (size - len(b))
                self.assertEqual(p + q, poly(*[n + m for n, m in zip(left, right)]))
                self.assertEqual(p - q, poly(*[n - m for n, m in zip(left, right)]))
                self.assertEqual(p * q, poly(*plain_product(a, b)))
                self.assertEqual((p.row, q.row), (poly(*a).row, poly(*b).row))

    def test_cancelled_degrees(self):
        self.assertEqual((poly(1, 2, 3) - poly(0, 2, 3)).row, (Ratio(1),))
        self.assertEqual((poly(1, 2) + poly(-1, -2)).row, ())
        self.assertEqual((X - X).degree(), -1)

    def test_negative(self):
        self.assertEqual(-poly(1, Fraction(-1, 2)), poly(-1, Fraction(1, 2)))
        self.assertEqual(-ZERO, ZERO)

    def test_division(self):
        for p in samples():
            for q in samples():
                if q.is_zero():
                    continue
                quotient, rest = p // q, p % q
                self.assertEqual(quotient * q + rest, p)
                self.assertTrue(rest.degree() < q.degree())
        self.assertEqual(poly(1, 0, 1) // poly(1, 1), poly(-1, 1))
        self.assertEqual(poly(1, 0, 1) % poly(1, 1), poly(2))
        self.assertEqual(poly(1, 1) // poly(Fraction(2, 3)), poly(Fraction(3, 2), Fraction(3, 2)))
        self.assertEqual((X // poly(1, 0, 1), X % poly(1, 0, 1)), (ZERO, X))
        self.assertEqual(poly(1, 5, 6) // poly(1, -2), poly(-4, -3))

    def test_division_by_zero(self):
        for p in (ZERO, ONE, X):
            with self.assertRaises(ZeroDivisor):
                p // ZERO
            with self.assertRaises(ZeroDivisor):
                p % ZERO

    def test_divides(self):
        self.assertIs(poly(1, 1).divides(poly(1, 2, 1)), True)
        self.assertIs(poly(2, 2).divides(poly(1, 2, 1)), True)
        self.assertIs(poly(1, 1).divides(poly(1, 2, 2)), False)
        self.assertIs(poly(1, 2, 1).divides(poly(1, 1)), False)
        self.assertIs(poly(5).divides(X), True)
        self.assertIs(ZERO.divides(ZERO), True)
        self.assertIs(ZERO.divides(ONE), False)
        self.assertIs(ZERO.divides(X), False)
        self.assertIs(X.divides(ZERO), True)
        self.assertIs(ONE.divides(ZERO), True)

    def test_value(self):
        points = [Fraction(0), Fraction(1), Fraction(-2), Fraction(3, 7), Fraction(-5, 2)]
        for p in samples():
            for a in points:
                self.assertEqual(fraction(p(ratio(a))), value(p, a))
        self.assertIsInstance(ZERO(Ratio(3)), Ratio)

    def test_scaled(self):
        self.assertEqual(poly(1, 2).scaled(Ratio(1, 2)), poly(Fraction(1, 2), 1))
        self.assertEqual(poly(1, 2).scaled(Ratio(0)), ZERO)
        self.assertEqual(ZERO.scaled(Ratio(-3)), ZERO)

    def test_power(self):
        p = poly(1, Fraction(-1, 2), 2)
        found = ONE
        for k in range(9):
            self.assertEqual(p.power(k), found)
            found = found * p
        self.assertEqual(ZERO.power(0), ONE)
        self.assertEqual(ZERO.power(2), ZERO)
        self.assertEqual(X.power(200), monomial(Ratio(1), 200))

    def test_monic(self):
        self.assertEqual(poly(1, 0, -2).monic(), poly(Fraction(-1, 2), 0, 1))
        self.assertEqual(poly(Fraction(-3, 4)).monic(), ONE)
        self.assertEqual(ZERO.monic(), ZERO)
        self.assertEqual(poly(7, 1).monic(), poly(7, 1))

    def test_derivative(self):
        self.assertEqual(poly(1, 2, Fraction(3, 2), 4).derivative(), poly(2, 3, 12))
        self.assertEqual(poly(5).derivative(), ZERO)
        self.assertEqual(ZERO.derivative(), ZERO)

    def test_shifted(self):
        for p in samples():
            for a in (Fraction(0), Fraction(1), Fraction(-3), Fraction(2, 3), Fraction(-5, 4)):
                found = p.shifted(ratio(a))
                self.assertEqual(found.degree(), p.degree())
                for k in range(p.degree() + 2):
                    self.assertEqual(value(found, Fraction(k)), value(p, k + a))
        self.assertEqual(poly(0, 0, 1).shifted(Ratio(1)), poly(1, 2, 1))

    def test_turned(self):
        self.assertEqual(poly(1, 2, 3).turned(2), poly(3, 2, 1))
        self.assertEqual(poly(1, 2, 3).turned(4), poly(0, 0, 3, 2, 1))
        self.assertEqual(poly(0, 0, 3).turned(2), poly(3))
        self.assertEqual(poly(5).turned(0), poly(5))
        self.assertEqual(poly(5).turned(3), poly(0, 0, 0, 5))
        self.assertEqual((ZERO.turned(0), ZERO.turned(3), ZERO.turned(-1)), (ZERO, ZERO, ZERO))

    def test_primitive(self):
        self.assertEqual(poly(Fraction(2, 3), Fraction(-4, 9)).primitive(), (Ratio(-2, 9), (-3, 2)))
        self.assertEqual(poly(-6).primitive(), (Ratio(-6), (1,)))
        self.assertEqual(poly(0, 4).primitive(), (Ratio(4), (0, 1)))
        for p in samples():
            if p.is_zero():
                continue
            r, numbers = p.primitive()
            self.assertIs(type(numbers), tuple)
            self.assertTrue(all(type(n) is int for n in numbers))
            self.assertEqual(gcd(*numbers), 1)
            self.assertTrue(numbers[-1] > 0)
            self.assertEqual(Poly(numbers).scaled(r), p)
        with self.assertRaises(ZeroDivisor):
            ZERO.primitive()

    def test_operands_stay(self):
        p, q = poly(1, 2, 3), poly(Fraction(1, 2), 1)
        for act in (p.monic, p.derivative, p.primitive, lambda: p.shifted(Ratio(3)), lambda: p.turned(5),
                    lambda: p.power(3), lambda: p.scaled(Ratio(2)), lambda: p // q, lambda: p % q,
                    lambda: p(Ratio(2)), lambda: list(p.terms()), lambda: p.divides(q), lambda: -p):
            self.assertEqual(act(), act())
            self.assertEqual((p.row, q.row), (poly(1, 2, 3).row, poly(Fraction(1, 2), 1).row))

    def test_large(self):
        source = random.Random(2)
        p, q = some_nonzero(source, 30, 10 ** 30), some_nonzero(source, 12, 10 ** 30)
        self.assertEqual((p * q) // q, p)
        self.assertEqual((p * q + X) % q, X)
        roots = list(range(1, 40))
        self.assertTrue(all(with_roots(*roots)(Ratio(k)).is_zero() for k in roots))


if __name__ == "__main__":
    unittest.main()
