import random
import unittest
from fractions import Fraction
from unittest import mock

from helpers import X, poly, some_nonzero, some_poly, with_roots
from indicial.divisor import (
    balance, balanced, cofactors, combine_to, common_divisor, multiplicity, separate, squarefree_part,
    squarefree_parts)
from indicial.errors import Fault, Malformed, ZeroDivisor
from indicial.integers import FIELDS, euclid_divisor, row_divisor
from indicial.poly import Poly, constant, product
from indicial.ratio import Ratio

ZERO = Poly(())
ONE = Poly((1,))
EVEN = poly(-2, 0, 1)
PLUS = poly(1, 0, 1)


def is_monic(p):
    return not p.is_zero() and p.last() == Ratio(1)


def coprime(p, q):
    return plain_divisor(p, q).degree() == 0


def plain_divisor(p, q):
    """Euclid's algorithm as point 3.2 has it."""
    while not q.is_zero():
        p, q = q, p % q
    return p.monic()


def pairs():
    source = random.Random(13)
    for _ in range(120):
        common = some_poly(source, source.randint(0, 3))
        yield common * some_poly(source, source.randint(0, 4)), common * some_poly(source, source.randint(0, 4))
    for p in (ZERO, ONE, poly(-4), X, poly(3, 2), poly(0, 0, Fraction(1, 2))):
        for q in (ZERO, ONE, poly(Fraction(2, 3)), X, poly(6, 4), poly(0, 0, 0, 5)):
            yield p, q


class CommonDivisor(unittest.TestCase):
    def test_examples(self):
        self.assertEqual(common_divisor(with_roots(1, 1, 2), with_roots(1, 3)), with_roots(1))
        self.assertEqual(common_divisor(poly(2, 4), poly(3, 6)), poly(Fraction(1, 2), 1))
        self.assertEqual(common_divisor(EVEN * X, EVEN * PLUS), EVEN)
        self.assertEqual(common_divisor(X, PLUS), ONE)
        self.assertEqual(common_divisor(poly(6), poly(0, 4)), ONE)

    def test_zeros_and_multiples(self):
        self.assertEqual(common_divisor(ZERO, ZERO), ZERO)
        self.assertEqual(common_divisor(ZERO, poly(2, 4)), poly(Fraction(1, 2), 1))
        self.assertEqual(common_divisor(poly(2, 4), ZERO), poly(Fraction(1, 2), 1))
        self.assertEqual(common_divisor(ZERO, poly(5)), ONE)
        self.assertEqual(common_divisor(X * PLUS, X), X)
        self.assertEqual(common_divisor(X, poly(0, 0, -3)), X)

    def test_random(self):
        for p, q in pairs():
            rows = (p.row, q.row)
            self.assertEqual(common_divisor(p, q), plain_divisor(p, q))
            self.assertEqual((p.row, q.row), rows)

    def test_large_coefficients(self):
        source = random.Random(4)
        for size in (10, 10 ** 9, 10 ** 40, 10 ** 300):
            common, p, q = (some_nonzero(source, 6, size) for _ in range(3))
            self.assertEqual(common_divisor(common * p, common * q), common.monic())

    def test_large_monic(self):
        # A divisor modulo the first prime that divides neither polynomial is not taken.
        for n in (10 ** 12, 10 ** 30, -10 ** 200):
            self.assertEqual(common_divisor(poly(n, 1) * poly(1, 1), poly(n, 1) * poly(2, 1)), poly(n, 1))
            self.assertEqual(common_divisor(poly(n, n, 1), poly(n + 1, n, 1)), ONE)

    def test_fast_way_is_enough(self):
        # Euclid's algorithm with its long numbers is the last resort only.
        source = random.Random(14)
        with mock.patch("indicial.integers.euclid_divisor", side_effect=AssertionError):
            for size in (9, 10 ** 6, 10 ** 25):
                for _ in range(10):
                    common, p, q = (some_nonzero(source, 3, size) for _ in range(3))
                    self.assertEqual(common_divisor(common * p, common * q), common.monic())

    def test_coefficients_that_the_primes_divide(self):
        for m in FIELDS:
            p = poly(1, m) * poly(5, 1)
            q = poly(1, m) * poly(7, m)
            self.assertEqual(common_divisor(p, q), poly(Fraction(1, m), 1))
            # Coprime, but not modulo m.
            self.assertEqual(common_divisor(poly(3, 0, 1), poly(3 + m, 0, 1)), ONE)
            self.assertEqual(common_divisor(poly(3, 1) * X, poly(3 + m, 1) * X), X)

    def test_euclid_gives_the_same(self):
        for p, q in pairs():
            if not p.is_zero() and not q.is_zero():
                a, b = p.primitive()[1], q.primitive()[1]
                self.assertEqual(list(euclid_divisor(a, b)), list(row_divisor(a, b)))
        whole = 1
        for m in FIELDS:
            whole *= m
        p, q = poly(1, whole) * poly(5, whole), poly(1, whole) * poly(7, whole)
        self.assertEqual(common_divisor(p, q), poly(Fraction(1, whole), 1))


class Cofactors(unittest.TestCase):
    def test_properties(self):
        for p, q in pairs():
            divisor, u, v = cofactors(p, q)
            self.assertEqual(divisor, plain_divisor(p, q))
            self.assertEqual(u * p + v * q, divisor)
            if q.is_zero():
                self.assertEqual(v, ZERO)
                self.assertEqual(u, ZERO if p.is_zero() else constant(p.last().inverse()))
            else:
                self.assertTrue(u.degree() < (q // divisor).degree())

    def test_examples(self):
        self.assertEqual(cofactors(X, PLUS), (ONE, -X, ONE))
        self.assertEqual(cofactors(ZERO, ZERO), (ZERO, ZERO, ZERO))
        self.assertEqual(cofactors(poly(0, 2), ZERO), (X, poly(Fraction(1, 2)), ZERO))
        self.assertEqual(cofactors(ZERO, poly(0, 2)), (X, ZERO, poly(Fraction(1, 2))))
        self.assertEqual(cofactors(X * PLUS, poly(0, 4)), (X, ZERO, poly(Fraction(1, 4))))
        self.assertEqual(cofactors(poly(3), poly(5)), (ONE, ZERO, poly(Fraction(1, 5))))
        self.assertEqual(cofactors(poly(3), X), (ONE, poly(Fraction(1, 3)), ZERO))

    def test_large(self):
        source = random.Random(6)
        p, q = (poly(*[source.randint(-10 ** 20, 10 ** 20) for _ in range(size)]) for size in (21, 19))
        divisor, u, v = cofactors(p, q)
        self.assertEqual((divisor, u * p + v * q), (ONE, ONE))
        self.assertTrue(u.degree() < q.degree())


class CombineTo(unittest.TestCase):
    def test_properties(self):
        source = random.Random(8)
        for a, b in pairs():
            common = plain_divisor(a, b)
            for c in (common * some_poly(source, 5), some_poly(source, 3), common, ZERO, ONE):
                found = combine_to(a, b, c)
                if not common.divides(c):
                    self.assertIsNone(found)
                    continue
                s, t = found
                self.assertEqual(s * a + t * b, c)
                if b.is_zero():
                    self.assertEqual(t, ZERO)
                    self.assertEqual(s, ZERO if a.is_zero() else c // a)
                else:
                    self.assertTrue(s.degree() < (b // common).degree())

    def test_examples(self):
        self.assertIsNone(combine_to(X, poly(0, 0, 1), ONE))
        self.assertIsNone(combine_to(ZERO, ZERO, ONE))
        self.assertIsNone(combine_to(X, ZERO, ONE))
        self.assertEqual(combine_to(ZERO, ZERO, ZERO), (ZERO, ZERO))
        self.assertEqual(combine_to(ZERO, X, poly(0, 3)), (ZERO, poly(3)))
        self.assertEqual(combine_to(X, ZERO, poly(0, 3)), (poly(3), ZERO))
        self.assertEqual(combine_to(X, ZERO, poly(0, 0, 3)), (poly(0, 3), ZERO))
        self.assertEqual(combine_to(X, PLUS, ONE), (-X, ONE))


class Squarefree(unittest.TestCase):
    def test_examples(self):
        p = poly(-3) * with_roots(1, 2) * PLUS.power(2) * with_roots(3, Fraction(1, 2)).power(5)
        self.assertEqual(squarefree_parts(p),
                         ((with_roots(1, 2), 1), (PLUS, 2), (with_roots(3, Fraction(1, 2)), 5)))
        self.assertEqual(squarefree_part(p), with_roots(1, 2, 3, Fraction(1, 2)) * PLUS)
        self.assertEqual(squarefree_parts(X.power(40)), ((X, 40),))
        self.assertEqual(squarefree_parts(EVEN.scaled(Ratio(7))), ((EVEN, 1),))

    def test_constants(self):
        for p in (ONE, poly(-4), poly(Fraction(2, 3))):
            self.assertEqual(squarefree_parts(p), ())
            self.assertEqual(squarefree_part(p), ONE)

    def test_zero(self):
        with self.assertRaises(ZeroDivisor):
            squarefree_parts(ZERO)
        with self.assertRaises(ZeroDivisor):
            squarefree_part(ZERO)

    def test_random(self):
        source = random.Random(9)
        for _ in range(60):
            p = product([some_nonzero(source, 2).power(source.randint(0, 4)) for _ in range(3)])
            parts = squarefree_parts(p)
            self.assertEqual(product([part.power(k) for part, k in parts]).scaled(p.last()), p)
            self.assertEqual(squarefree_part(p), product([part for part, _ in parts]))
            self.assertEqual([k for _, k in parts], sorted({k for _, k in parts}))
            for at, (part, _) in enumerate(parts):
                self.assertTrue(is_monic(part) and part.degree() > 0)
                self.assertTrue(coprime(part, part.derivative()))
                self.assertTrue(all(coprime(part, other) for other, _ in parts[:at]))


class Separate(unittest.TestCase):
    def test_examples(self):
        p = with_roots(1, 1, 1, 2, 3).scaled(Ratio(5))
        self.assertEqual(separate(p, with_roots(1, 3, 4)), (with_roots(1, 1, 1, 3), with_roots(2).scaled(Ratio(5))))
        self.assertEqual(separate(p, ONE), (ONE, p))
        self.assertEqual(separate(p, ZERO), (p.monic(), poly(5)))
        self.assertEqual(separate(poly(7), X), (ONE, poly(7)))
        self.assertEqual(separate(poly(7), ZERO), (ONE, poly(7)))
        self.assertEqual(separate(p, p), (p.monic(), poly(5)))

    def test_zero(self):
        for q in (ZERO, ONE, X):
            with self.assertRaises(ZeroDivisor):
                separate(ZERO, q)

    def test_random(self):
        for p, q in pairs():
            if p.is_zero():
                continue
            inside, outside = separate(p, q)
            self.assertEqual(inside * outside, p)
            self.assertTrue(is_monic(inside))
            self.assertTrue(coprime(outside, q))
            self.assertTrue(squarefree_part(inside).divides(q))


class Multiplicity(unittest.TestCase):
    def test_examples(self):
        self.assertEqual(multiplicity(X, X.power(7) * PLUS), 7)
        self.assertEqual(multiplicity(PLUS.scaled(Ratio(1, 3)), PLUS.power(3) * X), 3)
        self.assertEqual(multiplicity(X, PLUS), 0)
        self.assertEqual(multiplicity(X, poly(4)), 0)
        self.assertEqual(multiplicity(with_roots(1, 2), with_roots(1, 1, 1, 2)), 1)
        self.assertEqual(multiplicity(X.power(2), X.power(5)), 2)

    def test_zero(self):
        with self.assertRaises(ZeroDivisor):
            multiplicity(X, ZERO)


class Balance(unittest.TestCase):
    def test_examples(self):
        p = with_roots(0, 1, 2, 3)
        a = with_roots(1, 2, 2, 2, 3, 3, 3, 5)
        self.assertEqual(balance(p, a), ((X, 0), (with_roots(1), 1), (with_roots(2, 3), 3)))
        self.assertEqual(balance(p.scaled(Ratio(-2, 3)), a), balance(p, a))
        self.assertEqual(balance(poly(0, -1, 1), poly(0, 0, 1)), ((with_roots(1), 0), (X, 2)))
        self.assertEqual(balance(p, poly(9)), ((p, 0),))
        self.assertEqual(balance(EVEN, EVEN.power(4)), ((EVEN, 4),))
        self.assertEqual(balance(X, X.power(30)), ((X, 30),))

    def test_errors_in_their_order(self):
        for p in (ZERO, ONE, poly(3), X.power(2), X * PLUS.power(2)):
            for a in (ZERO, ONE, X):
                with self.assertRaises(Malformed):
                    balance(p, a)
        with self.assertRaises(ZeroDivisor):
            balance(X, ZERO)
        with self.assertRaises(Fault):
            balance(EVEN, ZERO)

    def test_random(self):
        source = random.Random(10)
        for _ in range(60):
            p = squarefree_part(product([some_nonzero(source, 2) for _ in range(3)]))
            a = product([some_nonzero(source, 1).power(source.randint(0, 3)) for _ in range(2)])
            a = a * p.power(source.randint(0, 2)) * plain_divisor(p, a)
            if p.degree() < 1:
                continue
            parts = balance(p, a)
            self.assertEqual(product([part for part, _ in parts]), p)
            self.assertEqual([k for _, k in parts], sorted({k for _, k in parts}))
            for part, k in parts:
                self.assertTrue(is_monic(part) and part.degree() > 0)
                self.assertEqual(multiplicity(part, a), k)
                self.assertTrue(coprime(part, a // part.power(k)))


class Balanced(unittest.TestCase):
    def test_examples(self):
        first, second = with_roots(1, 2, 2, 3), with_roots(3, 4, 4).scaled(Ratio(5))
        self.assertEqual(balanced((first, second)), (with_roots(4), with_roots(3), with_roots(2), with_roots(1)))
        self.assertEqual(balanced([with_roots(1, 2), with_roots(1, 2, 1, 2)]), (with_roots(1, 2),))
        self.assertEqual(balanced((PLUS * X, X)), (X, PLUS))
        self.assertEqual(balanced((with_roots(1, 2), with_roots(3, 4))), (with_roots(1, 2), with_roots(3, 4)))

    def test_one_root(self):
        self.assertEqual(balanced((X,)), (X,))
        self.assertEqual(balanced((ONE, poly(0, 0, -3), poly(5))), (X,))

    def test_empty(self):
        for polys in ((), [], (ONE,), [poly(4), poly(Fraction(1, 2))]):
            self.assertEqual(balanced(polys), ())

    def test_order(self):
        found = balanced((poly(-3, 1), poly(Fraction(1, 2), 1), poly(Fraction(1, 3), 1), poly(2, 1), PLUS, EVEN))
        self.assertEqual(found, (poly(-3, 1), poly(Fraction(1, 2), 1), poly(Fraction(1, 3), 1), poly(2, 1), EVEN, PLUS))
        # The tuples (n, d) are compared, not the numbers: 1/2 is before 1/3 as (1, 2) is before (1, 3).
        found = balanced((poly(Fraction(1, 3), 1), poly(Fraction(1, 2), 1)))
        self.assertEqual(found, (poly(Fraction(1, 2), 1), poly(Fraction(1, 3), 1)))

    def test_zero(self):
        for polys in ((ZERO,), (X, ZERO), [ZERO, X], (ONE, ZERO, X)):
            with self.assertRaises(ZeroDivisor):
                balanced(polys)

    def test_random(self):
        source = random.Random(12)
        for _ in range(40):
            roots = [source.randint(-3, 3) for _ in range(6)]
            polys = [with_roots(*[r for r in roots if source.random() < 0.6]) for _ in range(3)]
            polys = tuple(p * PLUS.power(source.randint(0, 1)) for p in polys)
            found = balanced(polys)
            self.assertEqual(product(found), squarefree_part(product(polys)))
            places = [(p.degree(), [(c.n, c.d) for c in p.row]) for p in found]
            self.assertEqual(places, sorted(places))
            orders = []
            for p in found:
                self.assertTrue(is_monic(p) and p.degree() > 0)
                orders.append([multiplicity(p, a) for a in polys])
                self.assertTrue(all(coprime(p, a // p.power(k)) for a, k in zip(polys, orders[-1])))
            # Coarsest: no two members have the same orders.
            self.assertTrue(all(order not in orders[:at] for at, order in enumerate(orders)))


if __name__ == "__main__":
    unittest.main()
