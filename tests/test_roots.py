import random
import unittest
from fractions import Fraction
from math import prod

from helpers import X, determinant, fraction, fractions_of, poly, ratio, some_nonzero, some_poly, with_roots
from indicial.errors import Fault, Malformed, ZeroDivisor
from indicial.poly import Poly
from indicial.ratio import Ratio
from indicial.roots import integer_roots, rational_roots, resultant, resultant_in_v

ZERO = Poly(())
ONE = Poly((1,))
EVEN = poly(-2, 0, 1)
PLUS = poly(1, 0, 1)


def by_determinant(p, q):
    """The determinant of point 3.6, word by word."""
    a, b = fractions_of(p)[::-1], fractions_of(q)[::-1]
    m, n = p.degree(), q.degree()
    rows = [[Fraction(0)] * k + a + [Fraction(0)] * (n - 1 - k) for k in range(n)]
    rows += [[Fraction(0)] * k + b + [Fraction(0)] * (m - 1 - k) for k in range(m)]
    return determinant(rows)


def value(p, a):
    return sum((number * a ** k for k, number in enumerate(fractions_of(p))), Fraction(0))


class Resultant(unittest.TestCase):
    def test_examples(self):
        self.assertEqual(resultant(poly(-1, 1), poly(-3, 1)), Ratio(-2))
        self.assertEqual(resultant(poly(-3, 1), poly(-1, 1)), Ratio(2))
        self.assertEqual(resultant(PLUS, EVEN), Ratio(9))
        self.assertEqual(resultant(poly(1, 2), poly(3, 4)), Ratio(2))
        self.assertEqual(resultant(with_roots(1, 2), with_roots(2, 3)), Ratio(0))

    def test_constants(self):
        self.assertEqual(resultant(poly(3), poly(5)), Ratio(1))
        self.assertEqual(resultant(poly(3), PLUS * X), Ratio(27))
        self.assertEqual(resultant(PLUS * X, poly(Fraction(-1, 2))), Ratio(-1, 8))

    def test_zero(self):
        for p in (ZERO, ONE, poly(4), X, PLUS):
            self.assertEqual(resultant(p, ZERO), Ratio(0))
            self.assertEqual(resultant(ZERO, p), Ratio(0))

    def test_against_the_determinant(self):
        source = random.Random(1)
        for _ in range(150):
            p = some_nonzero(source, source.randint(0, 4), 5)
            q = some_nonzero(source, source.randint(0, 4), 5)
            if source.random() < 0.2:
                common = with_roots(source.randint(-2, 2))
                p, q = p * common, q * common
                self.assertEqual(resultant(p, q), Ratio(0))
            self.assertEqual(fraction(resultant(p, q)), by_determinant(p, q))
            self.assertEqual(fraction(resultant(q, p)), by_determinant(q, p))

    def test_larger(self):
        roots, more = [Fraction(k, 3) for k in range(1, 14)], [Fraction(-k, 2) for k in range(12)]
        expected = prod(a - b for a in roots for b in more) * Fraction(5) ** 12 * Fraction(7) ** 13
        p, q = with_roots(*roots).scaled(Ratio(5)), with_roots(*more).scaled(Ratio(7))
        self.assertEqual(fraction(resultant(p, q)), expected)
        self.assertEqual(fraction(resultant(q, p)), expected)


class ResultantInV(unittest.TestCase):
    def assert_values(self, p, rows, points=range(-3, 6)):
        found = resultant_in_v(p, rows)
        top = max(row.degree() for row in rows)
        last = fraction(p.last())
        for v in [Fraction(point) for point in points] + [Fraction(1, 2), Fraction(-7, 3)]:
            q = ZERO
            for k, row in enumerate(rows):
                q = q + row.scaled(ratio(v ** k))
            expected = Fraction(0)
            if not q.is_zero():
                # The determinant has the last coefficient to the power of the degree of q.
                expected = by_determinant(p, q) * last ** (top - q.degree())
            self.assertEqual(value(found, v), expected)
        return found

    def test_example(self):
        # Point 6: (x^2 - 2) y' - y has I(v) = 2 x v - 1.
        self.assertEqual(self.assert_values(EVEN, (poly(-1), poly(0, 2))), poly(1, 0, -8))

    def test_product_over_known_roots(self):
        roots = [Fraction(1), Fraction(1), Fraction(-2), Fraction(1, 2)]
        p = with_roots(*roots).scaled(Ratio(3))
        rows = (poly(1, 1), poly(0, 0, 2), poly(5))
        found = self.assert_values(p, rows)
        for v in (Fraction(2), Fraction(-1, 3)):
            expected = prod(value(rows[0], a) + value(rows[1], a) * v + value(rows[2], a) * v * v for a in roots)
            self.assertEqual(value(found, v), expected * 9)
        self.assertEqual(found.degree(), 8)

    def test_exponent_of_the_last_coefficient(self):
        self.assertEqual(resultant_in_v(poly(0, 2), (ONE, poly(1, 1))), poly(2, 2))
        self.assertEqual(resultant_in_v(poly(0, 2), (poly(1, 0, 0, 1),)), poly(8))
        self.assertEqual(resultant_in_v(poly(0, 2), (ONE,)), ONE)

    def test_zero_rows(self):
        self.assertEqual(resultant_in_v(X, ()), ZERO)
        self.assertEqual(resultant_in_v(PLUS, (ZERO, ZERO)), ZERO)
        self.assert_values(PLUS, (ZERO, poly(1, 1), ZERO, ZERO))
        self.assertEqual(resultant_in_v(X, (ZERO, ONE, ZERO)), X)
        self.assertEqual(resultant_in_v(X, (poly(0, 1), poly(0, 3))), ZERO)

    def test_zero_row_between_others(self):
        self.assertEqual(self.assert_values(X, (ONE, ZERO, ONE)), PLUS)
        self.assert_values(EVEN, (poly(0, 1), ZERO, ZERO, poly(2, 3), ZERO))

    def test_malformed(self):
        for p in (ZERO, ONE, poly(-5)):
            for rows in ((), (ONE,), (X, ZERO), (ZERO,)):
                with self.assertRaises(Malformed):
                    resultant_in_v(p, rows)
        with self.assertRaises(Fault):
            resultant_in_v(ONE, ())

    def test_random(self):
        source = random.Random(2)
        for _ in range(40):
            p = some_nonzero(source, 3, 4)
            if p.degree() < 1:
                continue
            rows = tuple(some_poly(source, source.randint(-1, 3), 4) for _ in range(source.randint(1, 3)))
            if all(row.is_zero() for row in rows):
                continue
            found = self.assert_values(p, rows, range(-2, 3))
            self.assertTrue(found.degree() <= (len(rows) - 1) * p.degree())


class RationalRoots(unittest.TestCase):
    def test_examples(self):
        self.assertEqual(rational_roots(with_roots(3, -1, 0)), (Ratio(-1), Ratio(0), Ratio(3)))
        self.assertEqual(rational_roots(with_roots(2, 2, 2, 1, 1)), (Ratio(1), Ratio(2)))
        self.assertEqual(rational_roots(X.power(9)), (Ratio(0),))
        self.assertEqual(rational_roots(poly(-1, 6)), (Ratio(1, 6),))
        self.assertEqual(rational_roots(poly(Fraction(-1, 3), 0, Fraction(3, 4))), (Ratio(-2, 3), Ratio(2, 3)))
        self.assertEqual(rational_roots(poly(0, -1, 1).scaled(Ratio(-5, 7))), (Ratio(0), Ratio(1)))

    def test_ascending_by_value(self):
        roots = (Fraction(-7, 2), Fraction(-10, 3), Fraction(1, 7), Fraction(1, 6), Fraction(5))
        self.assertEqual(rational_roots(with_roots(*roots[::-1])), tuple(ratio(root) for root in roots))

    def test_without_rational_roots(self):
        for p in (EVEN, PLUS, poly(1, 1, 1), poly(-2, 0, 0, 1), EVEN * PLUS * poly(3, 0, 1)):
            self.assertEqual(rational_roots(p), ())
            self.assertEqual(rational_roots(p * p), ())
            self.assertEqual(rational_roots(p * poly(1, 2)), (Ratio(-1, 2),))

    def test_roots_modulo_every_prime_only(self):
        # It has roots modulo each prime, and no rational one.
        self.assertEqual(rational_roots(poly(-2, 0, 1) * poly(-3, 0, 1) * poly(-6, 0, 1)), ())

    def test_constants_and_zero(self):
        for p in (ONE, poly(-3), poly(Fraction(1, 5))):
            self.assertEqual(rational_roots(p), ())
            self.assertEqual(integer_roots(p), ())
        for search in (rational_roots, integer_roots):
            with self.assertRaises(ZeroDivisor):
                search(ZERO)

    def test_large_roots(self):
        big = 10 ** 80 + 3
        roots = (Fraction(-big), Fraction(1, big), Fraction(big, 7), Fraction(big + 1))
        self.assertEqual(rational_roots(with_roots(*roots) * PLUS), tuple(ratio(a) for a in sorted(roots)))

    def test_single_roots(self):
        for n in list(range(-40, 41)) + [120, 127, 128, 129, 200, 255, 256, 257, -200, 40000, 65535, 65536]:
            self.assertEqual(rational_roots(poly(-n, 1)), (Ratio(n),))
            self.assertEqual(rational_roots(poly(-n, 3)), (Ratio(n, 3),))
            self.assertEqual(integer_roots(poly(-n, 1) * PLUS), (n,))

    def test_many_roots(self):
        self.assertEqual(integer_roots(with_roots(*range(-20, 21))), tuple(range(-20, 21)))

    def test_random(self):
        source = random.Random(3)
        for _ in range(80):
            roots = {Fraction(source.randint(-30, 30), source.randint(1, 12)) for _ in range(source.randint(0, 5))}
            p = with_roots(*[a for a in roots for _ in range(source.randint(1, 3))])
            p = p * PLUS.power(source.randint(0, 2)) * EVEN.power(source.randint(0, 1))
            p = p.scaled(Ratio(source.randint(1, 50), source.randint(1, 50)))
            row = p.row
            self.assertEqual(rational_roots(p), tuple(ratio(a) for a in sorted(roots)))
            self.assertEqual(integer_roots(p), tuple(int(a) for a in sorted(roots) if a.denominator == 1))
            self.assertEqual(p.row, row)


class IntegerRoots(unittest.TestCase):
    def test_integers_only(self):
        p = with_roots(-4, -1, 0, 2, 2, 9, Fraction(1, 2), Fraction(-3, 2))
        self.assertEqual(integer_roots(p), (-4, -1, 0, 2, 9))
        self.assertTrue(all(type(n) is int for n in integer_roots(p)))
        self.assertEqual(integer_roots(poly(-4, 0, 1)), (-2, 2))
        self.assertEqual(integer_roots(poly(-1, 2)), ())

    def test_bounds(self):
        p = with_roots(-4, -1, 0, 2, 9)
        self.assertEqual(integer_roots(p, least=-1), (-1, 0, 2, 9))
        self.assertEqual(integer_roots(p, least=0), (0, 2, 9))
        self.assertEqual(integer_roots(p, most=2), (-4, -1, 0, 2))
        self.assertEqual(integer_roots(p, most=0), (-4, -1, 0))
        self.assertEqual(integer_roots(p, least=-1, most=2), (-1, 0, 2))
        self.assertEqual(integer_roots(p, least=3, most=8), ())
        self.assertEqual(integer_roots(p, least=10), ())
        self.assertEqual(integer_roots(p, least=5, most=-5), ())
        self.assertEqual(integer_roots(p, least=None, most=None), (-4, -1, 0, 2, 9))
        with self.assertRaises(ZeroDivisor):
            integer_roots(ZERO, least=1, most=0)

    def test_bounds_are_keywords(self):
        with self.assertRaises(TypeError):
            integer_roots(X, 0)


if __name__ == "__main__":
    unittest.main()
