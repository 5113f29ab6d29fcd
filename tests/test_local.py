import random
import unittest
from fractions import Fraction

from helpers import X, fraction, function, operator, poly, polys_of, ratio, some_nonzero, some_poly, with_roots
from indicial.divisor import balanced, common_divisor, multiplicity
from indicial.errors import Malformed
from indicial.local import Exponents, Infinity, degree_bound, falling, least_order, reach
from indicial.operator import Operator
from indicial.poly import Poly, constant, product
from indicial.ratfun import RatFun, of_poly
from indicial.ratio import Ratio
from indicial.roots import integer_roots, rational_roots, resultant_in_v

NOTHING = Poly(())
EULER = polys_of("-1", "x", "x^2")


def applied(polys, y):
    """L(y), as the operator of chapter 5 makes it."""
    return Operator([of_poly(a) for a in polys])(y)


def samples(seed, count=25):
    """Coefficients with common factors, and a place that is balanced for them."""
    source = random.Random(seed)
    bases = [X, poly(-1, 1), poly(-2, 0, 1), poly(1, 1, 1), poly(2, 3)]
    found = []
    while len(found) < count:
        polys = []
        for _ in range(source.randint(1, 4)):
            part = product([p.power(source.randint(0, 2)) for p in source.sample(bases, 2)])
            polys.append(part.scaled(Ratio(source.randint(-3, 3))) * some_nonzero(source, 1, 4))
        if not polys[-1].is_zero():
            places = balanced([a for a in polys if not a.is_zero()])
            if places:
                found.append((tuple(polys), source.choice(places)))
    return found


class Falling(unittest.TestCase):
    def test_values(self):
        self.assertEqual(falling(0), poly(1))
        self.assertEqual(falling(1), X)
        self.assertEqual(falling(2), poly(0, -1, 1))
        self.assertEqual(falling(5), with_roots(0, 1, 2, 3, 4))

    def test_derivatives_of_powers(self):
        for v in range(6):
            y = of_poly(poly(-3, 1)).power(v)
            for i in range(7):
                expected = of_poly(poly(-3, 1)).power(v - i) * of_poly(constant(falling(i)(ratio(v))))
                self.assertEqual(y, expected)
                y = y.derivative()


class Reach(unittest.TestCase):
    def test_examples(self):
        self.assertEqual(reach(EULER, X), (0, (0, 1, 2)))
        self.assertEqual(reach(polys_of("-1", "x^2 - 2"), poly(-2, 0, 1)), (0, (0, 1)))
        self.assertEqual(reach(polys_of("-1", "x^2"), X), (0, (0,)))
        self.assertEqual(reach(polys_of("1", "0", "x"), X), (-1, (2,)))
        self.assertEqual(reach((NOTHING, NOTHING, poly(0, 0, 0, 1)), X), (1, (2,)))

    def test_word_by_word(self):
        for polys, p in samples(90):
            shifts = {i: multiplicity(p, a) - i for i, a in enumerate(polys) if not a.is_zero()}
            s = min(shifts.values())
            self.assertEqual(reach(polys, p), (s, tuple(i for i in sorted(shifts) if shifts[i] == s)))


class AtAPlace(unittest.TestCase):
    def test_examples(self):
        e = Exponents(EULER, X)
        self.assertEqual(list(e), [poly(-1), NOTHING, poly(1)])
        self.assertEqual((len(e), e.lowest, e.integers(), e.rationals()), (3, 0, (-1, 1), (ratio(-1), ratio(1))))
        p = poly(-2, 0, 1)
        e = Exponents(polys_of("-1", "x^2 - 2"), p)
        self.assertEqual(list(e), [poly(-1), poly(0, 2)])
        self.assertEqual(e.eliminant().monic(), poly(Fraction(-1, 8), 0, 1))
        self.assertEqual((e.integers(), e.rationals()), ((), ()))
        e = Exponents(polys_of("-1", "x^2"), X)
        self.assertEqual((list(e), len(e), e.lowest, e.integers()), ([poly(-1)], 1, 0, ()))

    def test_rational_exponents(self):
        e = Exponents(polys_of("-1", "2*x"), X)
        self.assertEqual((e.integers(), e.rationals()), ((), (ratio(Fraction(1, 2)),)))
        e = Exponents(polys_of("1/4", "0", "x^2"), X)
        self.assertEqual((e.integers(), e.rationals()), ((), (ratio(Fraction(1, 2)),)))
        e = Exponents(polys_of("2", "-4*x", "2*x^2"), X)
        self.assertEqual(e.rationals(), rational_roots(poly(2, -6, 2)))

    def test_word_by_word(self):
        for polys, p in samples(91):
            e = Exponents(polys, p)
            s, indexes = reach(polys, p)
            self.assertEqual(e.lowest, s)
            self.assertEqual(len(e), indexes[-1] + 1)
            for v in (ratio(n) for n in (-2, 0, 1, Fraction(3, 2))):
                value = NOTHING
                for i in indexes:
                    b = polys[i] // p.power(multiplicity(p, polys[i]))
                    value = value + (b * p.derivative().power(i)).scaled(falling(i)(v))
                self.assertEqual(e.value(v), value % p)
                self.assertIs(v in e, common_divisor(value, p).degree() > 0)
            rows = list(e)
            self.assertTrue(all(row.degree() < p.degree() for row in rows))
            self.assertFalse(rows[-1].is_zero())
            eliminant = e.eliminant()
            self.assertEqual(eliminant, resultant_in_v(p, tuple(rows)))
            self.assertFalse(eliminant.is_zero())
            self.assertEqual(e.rationals(), rational_roots(eliminant))
            self.assertEqual(e.integers(), integer_roots(eliminant))
            for v in e.rationals():
                self.assertIn(v, e)

    def test_orders_of_images(self):
        # Point 6.4 at a root of degree 1: the order of L(y) is v + s exactly if v is no exponent.
        source = random.Random(92)
        for polys, p in samples(93):
            if p.degree() != 1:
                continue
            e = Exponents(polys, p)
            for v in range(-3, 4):
                y = of_poly(p).power(v) * of_poly(poly(source.randint(1, 5), source.randint(0, 3)) if p == X else poly(1))
                image = applied(polys, y)
                if ratio(v) not in e:
                    self.assertEqual(image.order_at(p), v + e.lowest)
                elif not image.is_zero():
                    self.assertTrue(image.order_at(p) > v + e.lowest)

    def test_places_that_split(self):
        # The exponents at 1, 2, .. are different, and so are those at the roots of x^2 - 2 and x^2 - 3.
        roots = with_roots(1, 2, 3, 4)
        y = RatFun(with_roots(1, 2, 2, 2), with_roots(3, 3, 3, 4, 4, 4, 4, 4))
        slope = y.log_derivative()
        polys = (-slope.num, slope.den)
        self.assertEqual(slope.den, roots)
        self.assertEqual(Exponents(polys, roots).integers(), (-5, -3, 1, 3))
        first, second = poly(-2, 0, 1), poly(-3, 0, 1)
        for k, m in ((2, -3), (-70, 90), (10, 10)):
            slope = (of_poly(first).power(k) * of_poly(second).power(m)).log_derivative()
            e = Exponents((-slope.num, slope.den), first * second)
            self.assertEqual(e.integers(), tuple(sorted({k, m})))
            self.assertEqual(e.integers(), integer_roots(e.eliminant()))
        half = of_poly(first).log_derivative() * function("1/2") + of_poly(second).log_derivative() * function("5/13")
        e = Exponents((-half.num, half.den), first * second)
        self.assertEqual(e.rationals(), (ratio(Fraction(5, 13)), ratio(Fraction(1, 2))))
        self.assertEqual(e.integers(), ())

    def test_places_of_a_high_degree(self):
        source = random.Random(94)
        p = (some_poly(source, 24) + poly(*[0] * 25, 1)).monic()
        polys = (some_poly(source, 20), some_poly(source, 20), p)
        self.assertEqual(balanced([a for a in polys])[-1], p)
        e = Exponents(polys, p)
        self.assertEqual((e.lowest, e.integers()), (-1, (0,)))

    def test_refused_places(self):
        for polys, p in (((), X), ((X, NOTHING), X), ((NOTHING,), X), (EULER, poly(0, 2)), (EULER, poly(0, 0, 1)), (EULER, poly(1)),
                         (EULER, NOTHING), (EULER, poly(0, -1, 1)), ((poly(0, 1), poly(1)), poly(0, -1, 1)), ((X,), poly(0, -1))):
            for act in (lambda: Exponents(polys, p), lambda: least_order(polys, p, 0), lambda: least_order(polys, p, None)):
                with self.assertRaises(Malformed):
                    act()
        self.assertEqual(Exponents((NOTHING, poly(0, -1, 1)), poly(0, -1, 1)).integers(), (0,))
        self.assertEqual(Exponents((poly(1),), X).integers(), ())


class AtInfinity(unittest.TestCase):
    def test_examples(self):
        e = Infinity(EULER)
        self.assertEqual((e.highest, e.polynomial(), e.integers()), (0, poly(-1, 0, 1), (-1, 1)))
        self.assertEqual(e.rationals(), (ratio(-1), ratio(1)))
        e = Infinity(polys_of("-1", "2*x"))
        self.assertEqual((e.polynomial(), e.integers(), e.rationals()), (poly(-1, 2), (), (ratio(Fraction(1, 2)),)))
        self.assertIn(ratio(Fraction(1, 2)), e)
        self.assertNotIn(ratio(1), e)
        e = Infinity(polys_of("x", "0", "3*x^2"))
        self.assertEqual((e.highest, e.polynomial(), e.integers()), (1, poly(1), ()))
        self.assertNotIn(ratio(0), e)

    def test_degrees_of_images(self):
        source = random.Random(95)
        for polys, _ in samples(96):
            e = Infinity(polys)
            self.assertEqual(e.highest, max(a.degree() - i for i, a in enumerate(polys) if not a.is_zero()))
            for v in range(-3, 5):
                y = RatFun(some_poly(source, 3) + poly(0, 0, 0, 0, 1), poly(*[0] * (4 - v), 2) if v < 4 else poly(2))
                self.assertEqual(y.degree(), min(v, 4))
                v = min(v, 4)
                image = applied(polys, y)
                top = e.polynomial()(ratio(v)) * y.leading()
                self.assertIs(ratio(v) in e, top.is_zero())
                if not top.is_zero():
                    self.assertEqual((image.degree(), image.leading()), (v + e.highest, top))
                elif not image.is_zero():
                    self.assertTrue(image.degree() < v + e.highest)
            self.assertEqual(e.rationals(), rational_roots(e.polynomial()))
            self.assertEqual(e.integers(), integer_roots(e.polynomial()))

    def test_refused(self):
        for polys in ((), (NOTHING,), (X, NOTHING)):
            for act in (lambda: Infinity(polys), lambda: degree_bound(polys, 0), lambda: degree_bound(polys, None)):
                with self.assertRaises(Malformed):
                    act()


class Bounds(unittest.TestCase):
    def test_least_order(self):
        polys = polys_of("-1", "x^2")
        self.assertEqual(least_order(polys, X, 3), 3)
        self.assertIsNone(least_order(polys, X, None))
        self.assertEqual(least_order(EULER, X, None), -1)
        self.assertEqual(least_order(EULER, X, -4), -4)
        self.assertEqual(least_order(EULER, X, 4), -1)
        self.assertEqual(least_order(polys_of("1", "x^3"), X, 0), 0)
        self.assertEqual(least_order(polys_of("0", "x^3"), X, 0), -2)
        self.assertEqual(least_order(polys_of("0", "1"), X, 0), 0)
        self.assertEqual(least_order(polys_of("0", "1"), X, -3), -2)
        self.assertEqual(least_order(polys_of("-1", "2*x"), X, None), None)
        self.assertEqual(least_order((X,), X, 5), 4)

    def test_degree_bound(self):
        self.assertEqual(degree_bound(EULER, None), 1)
        self.assertEqual(degree_bound(EULER, 5), 5)
        self.assertEqual(degree_bound(EULER, -5), 1)
        self.assertEqual(degree_bound(polys_of("1", "1"), None), -1)
        self.assertEqual(degree_bound(polys_of("1", "1"), -7), -1)
        self.assertEqual(degree_bound(polys_of("1", "1"), 7), 7)
        self.assertEqual(degree_bound(polys_of("0", "1"), 7), 8)
        self.assertEqual(degree_bound(polys_of("0", "1"), -7), 0)
        self.assertEqual(degree_bound(polys_of("3", "x"), None), -1)
        self.assertEqual(degree_bound((poly(0, 0, 1),), 5), 3)

    def test_bounds_hold(self):
        source = random.Random(97)
        for polys, p in samples(98):
            if p.degree() != 1:
                continue
            y = of_poly(p).power(source.randint(-3, 3)) * of_poly(some_nonzero(source, 3))
            image = applied(polys, y)
            low = None if image.is_zero() else image.order_at(p)
            high = None if image.is_zero() else image.degree()
            self.assertTrue(y.order_at(p) >= least_order(polys, p, low))
            self.assertTrue(y.degree() <= degree_bound(polys, high) or y.degree() < 0)

    def test_cleared_operators(self):
        self.assertEqual([c.num for c in operator("x^2*D^2 + x*D - 1")], list(EULER))
        self.assertEqual(fraction(Exponents(EULER, X).value(ratio(2)).row[0]), 3)


if __name__ == "__main__":
    unittest.main()
