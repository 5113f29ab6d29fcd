import random
import unittest
from fractions import Fraction

from helpers import X, fraction, poly, ratio, some_nonzero, some_poly, with_roots
from indicial.divisor import common_divisor, is_squarefree
from indicial.poly import Poly, product
from indicial.ratfun import of_poly
from indicial.roots import rational_roots, resultant_in_v
from indicial.zeros import candidates, factors_of, shared_zeros, value_at, without_common_zeros, zeros_modulo

PLACES = [X, poly(-1, 1), poly(1, 2), poly(-2, 0, 1), poly(1, 1, 1), poly(-5, 0, 1), poly(-2, 0, 0, 1), poly(1, 0, 0, 0, 1)]


def some_place(source, count=3):
    return product([p.monic() for p in source.sample(PLACES, count)])


def some_rows(source, p, count):
    """Rows below the degree of p, the last one coprime to p."""
    while True:
        rows = [some_poly(source, p.degree() - 1, 5) for _ in range(count)]
        if rows[-1].degree() >= 0 and common_divisor(rows[-1], p).degree() == 0:
            return rows


def slope_rows(powers):
    """The place and the rows of p y' = y q for the product y of the powers of some places."""
    slope = of_poly(Poly(()))
    for p, e in powers:
        slope = slope + of_poly(p.derivative().scaled(ratio(e)) % p) // of_poly(p)
    return slope.den, [-slope.num % slope.den, slope.den.derivative()]


class Zeros(unittest.TestCase):
    def test_as_the_resultant_tells(self):
        source = random.Random(160)
        for _ in range(40):
            p = some_place(source, source.randint(1, 3))
            rows = some_rows(source, p, source.randint(1, 3))
            factor = [ratio(n) for n in source.choice(((1,), (-3, 1), (0, 1), (2, -5, 2)))]
            # The rows times a polynomial in v.
            longer = [Poly(()) for _ in range(len(rows) + len(factor) - 1)]
            for i, row in enumerate(rows):
                for j, number in enumerate(factor):
                    longer[i + j] = longer[i + j] + row.scaled(number)
            self.assertEqual(shared_zeros(p, longer), rational_roots(resultant_in_v(p, tuple(longer))))

    def test_different_zeros_at_different_roots(self):
        source = random.Random(161)
        for _ in range(15):
            places = source.sample([p.monic() for p in PLACES], 4)
            powers = [Fraction(source.randint(-30, 30), source.randint(1, 12)) for _ in places]
            p, rows = slope_rows(list(zip(places, powers)))
            # Where the exponent is 0 there is no pole.
            expected = sorted({e for e in powers if e != 0})
            self.assertEqual([fraction(v) for v in shared_zeros(p, rows)], expected)

    def test_large_zeros(self):
        p, rows = slope_rows([(poly(-2, 0, 1), 10 ** 6), (poly(-5, 0, 1), Fraction(1, 10 ** 5)), (X, -10 ** 20)])
        self.assertEqual([fraction(v) for v in shared_zeros(p, rows)], [-10 ** 20, Fraction(1, 10 ** 5), 10 ** 6])
        p, rows = slope_rows([(poly(-2, 0, 1), 10 ** 6), (poly(-5, 0, 1), -100)])
        self.assertEqual([fraction(v) for v in shared_zeros(p, rows)], [-100, 10 ** 6])

    def test_a_place_of_a_high_degree(self):
        source = random.Random(162)
        first = some_poly(source, 29) + poly(*[0] * 30, 1)
        second = some_poly(source, 9) + poly(*[0] * 10, 1)
        self.assertTrue(is_squarefree(first * second))
        p, rows = slope_rows([(first, 5), (second, Fraction(-7, 3))])
        self.assertEqual([fraction(v) for v in shared_zeros(p, rows)], [Fraction(-7, 3), 5])

    def test_common_zeros(self):
        rows = [poly(-6, 6), poly(1, -1), poly(1, -1)]
        divisor, rest = without_common_zeros(rows)
        self.assertEqual((divisor, rest), (poly(-6, 1, 1), [poly(1, -1)]))
        divisor, rest = without_common_zeros([poly(0, 1), poly(1)])
        self.assertEqual((divisor, rest), (poly(1), [poly(0, 1), poly(1)]))


class Splitting(unittest.TestCase):
    def test_candidates(self):
        residues = [(q, [v for v in range(q) if (2 * v - 7) % q == 0 or v == 3 % q]) for q in (3, 5, 7, 11, 13, 17, 19, 23, 29)]
        self.assertEqual(sorted(fraction(v) for v in candidates(residues)), [3, Fraction(7, 2)])
        self.assertEqual(candidates([(3, [1]), (2, [])]), [])
        for v in (60, -60, Fraction(-59, 12), Fraction(719, 12)):
            residues = [(q, [v.numerator * pow(v.denominator, -1, q) % q]) for q in (5, 7, 11, 13, 17, 19, 23, 29)]
            self.assertIn(ratio(v), candidates(residues))

    def test_residues(self):
        # v^2 - 2 has no zero modulo 3, v - x none at the roots of x^2 - 2 there.
        self.assertEqual(zeros_modulo(poly(-2, 0, 1), [poly(0, -1), poly(1)])[-1], (3, []))
        found = zeros_modulo(poly(-2, 0, 1), [poly(-4), poly(1)])
        self.assertEqual([zeros for _, zeros in found], [[4 % q] for q, _ in found])
        self.assertEqual(len(found), 20)
        self.assertEqual([q for q, _ in found[:4]], [2, 3, 5, 7])
        # Modulo 3 the place loses its degree, modulo 5 the last row is zero at a root.
        self.assertEqual([q for q, _ in zeros_modulo(poly(1, 3), [poly(2), poly(5)])[:3]], [2, 7, 11])

    def test_factors(self):
        p, rows = slope_rows([(poly(-2, 0, 1), 3), (poly(1, 1, 1), -2)])
        found = factors_of(p, rows, zeros_modulo(p, rows))
        self.assertEqual(sorted(tuple(map(str, q.row)) for q in found), [("-2", "0", "1"), ("1", "1", "1")])
        p, rows = slope_rows([(X, 3), (poly(-1, 1), 2), (poly(1, 1, 1), -2)])
        self.assertEqual(factors_of(p, rows, zeros_modulo(p, rows)), [X, poly(-1, 1), poly(1, 1, 1)])
        self.assertEqual(factors_of(with_roots(1, 2), rows, []), [poly(-1, 1), poly(-2, 1)])
        self.assertEqual(factors_of(poly(-2, 0, 1), [poly(0, -1), poly(1)], [(2, [0])]), [])

    def test_value(self):
        source = random.Random(163)
        rows = [some_nonzero(source, 2) for _ in range(4)]
        v = Fraction(-2, 3)
        expected = Poly(())
        for i, row in enumerate(rows):
            expected = expected + row.scaled(ratio(v ** i))
        self.assertEqual(value_at(rows, ratio(v)), expected)


if __name__ == "__main__":
    unittest.main()
