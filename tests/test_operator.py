import random
import unittest

from helpers import fun, others, poly, some_function, some_operator
from indicial.errors import Fault, Refused, ZeroDivisor
from indicial.operator import Operator, annihilator, derivation, first_order, of_function
from indicial.ratfun import RatFun, of_poly, of_ratio, the_variable
from indicial.ratio import Ratio

ZERO = Operator(())
NOTHING = fun(())
UNIT = fun((1,))
ONE = Operator((UNIT,))
D = Operator((NOTHING, UNIT))
X = Operator((fun((0, 1)),))


def samples(seed, count=12):
    source = random.Random(seed)
    return [ZERO, ONE, D, X] + [some_operator(source, source.randint(0, 2)) for _ in range(count - 4)]


def functions(seed, count=6):
    source = random.Random(seed)
    return [NOTHING, UNIT, fun((0, 1))] + [some_function(source) for _ in range(count - 3)]


def applied(a, y):
    """Point 5.2 word by word: the sum of a_i times the i-th derivatives."""
    found = NOTHING
    for f in a.coefficients:
        found = found + f * y
        y = y.derivative()
    return found


class Creation(unittest.TestCase):
    def test_coefficients(self):
        f, g = fun((0, 1)), fun((1,), (0, 1))
        self.assertEqual(Operator((f, g)).coefficients, (f, g))
        self.assertEqual(Operator([f, NOTHING, g, NOTHING, NOTHING]).coefficients, (f, NOTHING, g))
        for empty in ((), [], (NOTHING,), [NOTHING, NOTHING]):
            self.assertEqual(Operator(empty).coefficients, ())
        self.assertIs(type(Operator([f]).coefficients), tuple)

    def test_argument_stays(self):
        row = [UNIT, NOTHING]
        a = Operator(row)
        self.assertEqual(row, [UNIT, NOTHING])
        row[0] = NOTHING
        self.assertEqual(a, ONE)

    def test_order_and_len(self):
        for a, order in ((ZERO, -1), (ONE, 0), (D, 1), (D * D * X, 2)):
            self.assertEqual(a.order(), order)
            self.assertEqual(len(a), order + 1)
            self.assertIs(a.is_zero(), order == -1)

    def test_index_and_iteration(self):
        a = Operator((fun((0, 1)), NOTHING, UNIT))
        self.assertEqual([a[i] for i in range(6)], [fun((0, 1)), NOTHING, UNIT, NOTHING, NOTHING, NOTHING])
        self.assertEqual([ZERO[0], ZERO[7]], [NOTHING, NOTHING])
        self.assertEqual(list(a), [fun((0, 1)), NOTHING, UNIT])
        self.assertEqual(list(ZERO), [])

    def test_equality(self):
        self.assertTrue(Operator((NOTHING, fun((2,), (2,)))) == D)
        self.assertFalse(D == X)
        self.assertFalse(D == Operator((NOTHING, fun((2,)))))
        self.assertFalse(D == D * D)
        for value in others():
            if not isinstance(value, Operator):
                self.assertIs(ONE == value, False)
                self.assertIs(ZERO == value, False)
        self.assertFalse(ONE == UNIT)

    def test_constructors(self):
        f = fun((1, 2), (0, 1))
        self.assertEqual(of_function(f).coefficients, (f,))
        self.assertEqual(of_function(NOTHING), ZERO)
        self.assertEqual(derivation(), D)
        self.assertEqual(first_order(f).coefficients, (-f, UNIT))
        self.assertEqual(first_order(NOTHING), D)

    def test_annihilator(self):
        for y in functions(31, 12):
            if y.is_zero():
                continue
            a = annihilator(y)
            self.assertEqual(a.coefficients[1:], (UNIT,))
            self.assertTrue(a(y).is_zero())
            self.assertEqual(a, D - of_function(y.derivative() // y))
        self.assertEqual(annihilator(UNIT), D)
        with self.assertRaises(ZeroDivisor):
            annihilator(NOTHING)


class Arithmetic(unittest.TestCase):
    def test_sum_and_difference(self):
        for a in samples(32):
            for b in samples(33, 8):
                size = max(len(a), len(b))
                self.assertEqual(a + b, Operator([a[i] + b[i] for i in range(size)]))
                self.assertEqual(a - b, Operator([a[i] - b[i] for i in range(size)]))
                self.assertEqual(a + b - b, a)
            self.assertEqual((a - a).coefficients, ())
            self.assertEqual(-a + a, ZERO)
            self.assertEqual(a + ZERO, a)
        self.assertEqual((D + X) - D, X)

    def test_both_orders_of_a_product(self):
        self.assertEqual(D * X, Operator((UNIT, fun((0, 1)))))
        self.assertEqual(X * D, Operator((NOTHING, fun((0, 1)))))
        self.assertEqual(D * X - X * D, ONE)
        f = fun((1,), (1, 0, 1))
        self.assertEqual(D * of_function(f), of_function(f) * D + of_function(f.derivative()))
        self.assertEqual(D * D * X, Operator((NOTHING, fun((2,)), fun((0, 1)))))

    def test_product_acts_one_after_the_other(self):
        for a in samples(34):
            for b in samples(35, 8):
                product = a * b
                if not (a.is_zero() or b.is_zero()):
                    self.assertEqual(product.order(), a.order() + b.order())
                for y in functions(36, 5):
                    self.assertEqual(product(y), a(b(y)))

    def test_ring(self):
        for a, b, c in zip(samples(37), samples(38)[::-1], samples(39)):
            self.assertEqual((a * b) * c, a * (b * c))
            self.assertEqual(a * (b + c), a * b + a * c)
            self.assertEqual((a + b) * c, a * c + b * c)
            self.assertEqual((a * ONE, ONE * a), (a, a))
            self.assertEqual((a * ZERO, ZERO * a), (ZERO, ZERO))

    def test_application(self):
        for a in samples(40):
            for y in functions(41):
                self.assertEqual(a(y), applied(a, y))
        self.assertEqual(D(fun((0, 0, 0, 1))), fun((0, 0, 3)))
        self.assertEqual(ZERO(fun((0, 1))), NOTHING)
        self.assertEqual((D * D)(fun((1,), (0, 1))), fun((2,), (0, 0, 0, 1)))

    def test_scaled_and_after(self):
        for a in samples(42):
            for f in functions(43):
                self.assertEqual(a.scaled(f), of_function(f) * a)
                self.assertEqual(a.after(f), a * of_function(f))
                self.assertEqual(a.after(f)(fun((1, 1))), a(f * fun((1, 1))))
        self.assertEqual(D.after(fun((0, 1))), D * X)
        self.assertEqual(D.scaled(NOTHING), ZERO)

    def test_power(self):
        for a in samples(44, 8):
            found = ONE
            for k in range(4):
                self.assertEqual(a.power(k), found)
                found = found * a
        self.assertEqual(ZERO.power(0), ONE)
        self.assertEqual((ZERO.power(1), ZERO.power(5)), (ZERO, ZERO))
        self.assertEqual(D.power(20).order(), 20)

    def test_operands_stay(self):
        a, b = Operator((fun((1,), (0, 1)), UNIT, fun((0, 1)))), Operator((fun((0, 1)), UNIT))
        before = (a.coefficients, b.coefficients)
        for act in (lambda: a + b, lambda: a - b, lambda: a * b, lambda: -a, a.monic, a.adjoint,
                    lambda: a.divide(b), lambda: a.moved(fun((0, 1))), lambda: a(fun((0, 1))),
                    lambda: a.power(3), lambda: a.scaled(UNIT), lambda: a.after(fun((0, 1)))):
            self.assertEqual(act(), act())
            self.assertEqual((a.coefficients, b.coefficients), before)


class Leading(unittest.TestCase):
    def test_leading_and_monic(self):
        f = fun((1, 1), (0, 1))
        a = Operator((UNIT, fun((0, 1)), f))
        self.assertEqual(a.leading(), f)
        self.assertEqual(a.monic(), Operator((f.inverse(), fun((0, 1)) // f, UNIT)))
        self.assertEqual(of_function(f).monic(), ONE)
        for a in samples(45):
            if not a.is_zero():
                self.assertEqual(a.monic().leading(), UNIT)
                self.assertEqual(a.monic().scaled(a.leading()), a)

    def test_zero_is_refused(self):
        for act in (ZERO.leading, ZERO.monic):
            with self.assertRaises(Refused) as held:
                act()
            self.assertEqual(held.exception.reason, "zero")


class Division(unittest.TestCase):
    def test_pairs(self):
        for a in samples(46):
            for m in samples(47):
                if m.is_zero():
                    continue
                found = a.divide(m)
                self.assertIs(type(found), tuple)
                q, r = found
                self.assertEqual(q * m + r, a)
                self.assertTrue(r.order() < m.order())
                self.assertEqual((a * m).divide(m), (a, ZERO))
                self.assertEqual((a * m + r).divide(m), (a, r))

    def test_examples(self):
        x = the_variable()
        self.assertEqual((D * D).divide(first_order(x)), (first_order(-x), Operator((fun((1, 0, 1)),))))
        self.assertEqual(D.divide(D * D), (ZERO, D))
        self.assertEqual(ZERO.divide(D), (ZERO, ZERO))
        self.assertEqual(D.divide(X), (Operator((fun((-1,), (0, 0, 1)), fun((1,), (0, 1)))), ZERO))

    def test_zero_divisor(self):
        for a in (ZERO, ONE, D):
            with self.assertRaises(ZeroDivisor):
                a.divide(ZERO)
        with self.assertRaises(Fault):
            D.divide(Operator((NOTHING,)))


class AdjointAndMove(unittest.TestCase):
    def test_adjoint(self):
        self.assertEqual(D.adjoint(), -D)
        self.assertEqual(X.adjoint(), X)
        self.assertEqual((X * D).adjoint(), -D * X)
        self.assertEqual(ZERO.adjoint(), ZERO)
        for a, b in zip(samples(48), samples(49)[::-1]):
            expected = ZERO
            for i, f in enumerate(a.coefficients):
                expected = expected + (-D).power(i) * of_function(f)
            self.assertEqual(a.adjoint(), expected)
            self.assertEqual(a.adjoint().adjoint(), a)
            self.assertEqual((a * b).adjoint(), b.adjoint() * a.adjoint())

    def test_moved(self):
        x = the_variable()
        self.assertEqual(D.moved(x), first_order(-x))
        self.assertEqual((D * D).moved(x), first_order(-x) * first_order(-x))
        self.assertEqual(X.moved(x), X)
        self.assertEqual(ZERO.moved(x), ZERO)
        for a, u in zip(samples(50), functions(51, 12)):
            expected = ZERO
            for i, f in enumerate(a.coefficients):
                expected = expected + of_function(f) * (D + of_function(u)).power(i)
            self.assertEqual(a.moved(u), expected)
            self.assertEqual(a.moved(u).moved(-u), a)
            self.assertEqual(a.moved(NOTHING), a)

    def test_moved_by_a_logarithmic_derivative(self):
        y = RatFun(poly(0, 1, 1), poly(1, 0, 1))
        for a in samples(52):
            for f in functions(53):
                self.assertEqual(a(y * f), y * a.moved(y.log_derivative())(f))

    def test_constants(self):
        self.assertEqual(D(of_ratio(Ratio(5, 3))), NOTHING)
        self.assertEqual(D(of_poly(poly(0, 5))), fun((5,)))


if __name__ == "__main__":
    unittest.main()
