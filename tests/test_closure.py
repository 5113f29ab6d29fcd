import random
import unittest

from helpers import function, operator, some_function, some_operator
from indicial.closure import of_image, of_power, of_product, of_sum
from indicial.common import left_multiple, quotient
from indicial.errors import Fault, Refused, ZeroDivisor
from indicial.operator import Operator, annihilator, derivation, of_function
from indicial.ratfun import of_ratio
from indicial.ratio import Ratio
from indicial.text import show_operator

ZERO = Operator(())
ONE = of_function(of_ratio(Ratio(1)))
D = derivation()


def solved_by(*texts):
    """The monic operator of the least order with these functions as solutions."""
    found = ONE
    for text in texts:
        found = left_multiple(found, annihilator(function(text)))[0]
    return found


class Images(unittest.TestCase):
    def annihilates(self, c, a, m):
        """c annihilates m(y) exactly if a divides c * m from the right."""
        return quotient(c * m, a) is not None

    def test_random_operators(self):
        source = random.Random(80)
        for _ in range(12):
            a, m = some_operator(source, source.randint(0, 3)), some_operator(source, source.randint(0, 4))
            if a.is_zero():
                continue
            c = of_image(a, m)
            self.assertEqual(c, c.monic())
            self.assertTrue(self.annihilates(c, a, m))
            # An operator of a lower order that annihilates the image would divide it: then the least
            # common left multiple of a and m, whose cofactor of m annihilates the image, has a lower order.
            if not m.is_zero():
                self.assertEqual(left_multiple(a, m)[2].monic(), c)

    def test_examples(self):
        self.assertEqual(of_image(operator("D^2 - 1"), D), operator("D^2 - 1"))
        self.assertEqual(of_image(operator("D^2 - 1"), operator("D - 1")), operator("D + 1"))
        self.assertEqual(of_image(operator("D"), operator("x")), operator("D - 1/x"))
        self.assertEqual(of_image(operator("D^2"), operator("x*D")), operator("D - 1/x"))

    def test_the_expression_zero(self):
        for a, m in (("D^2 - 1", "0"), ("x*D - 1", "D*(x*D - 1)"), ("D", "D^2"), ("x", "1"), ("2", "D"), ("1", "0")):
            self.assertEqual(of_image(operator(a), operator(m)), ONE)

    def test_zero(self):
        for m in (ZERO, ONE, D):
            with self.assertRaises(ZeroDivisor):
                of_image(ZERO, m)


class Sums(unittest.TestCase):
    def test_sums(self):
        source = random.Random(81)
        for _ in range(10):
            a, b = some_operator(source, 2), some_operator(source, 1)
            if not a.is_zero() and not b.is_zero():
                self.assertEqual(of_sum(a, b), left_multiple(a, b)[0])
        self.assertEqual(of_sum(operator("D - 1"), D), operator("D^2 - D"))
        self.assertEqual(of_sum(ONE, operator("x*D")), D)

    def test_zero(self):
        for a, b in ((ZERO, D), (D, ZERO), (ZERO, ZERO)):
            with self.assertRaises(ZeroDivisor):
                of_sum(a, b)


class Products(unittest.TestCase):
    def test_examples(self):
        self.assertEqual(show_operator(of_product(operator("D - 1"), operator("D^2 - 1"))), "D^2 + (-2)*D")
        self.assertEqual(of_product(operator("D - 1"), operator("D + 1")), D)
        self.assertEqual(of_product(operator("D^2 + 1"), operator("D^2 + 1")), operator("D^3 + 4*D"))
        self.assertEqual(of_product(operator("D^2 + 1"), operator("D^2 + 4")), operator("D^4 + 10*D^2 + 9"))

    def test_solutions(self):
        ys, zs = ("x + 1", "1/x"), ("x^2", "x/(x - 1)", "3")
        a, b = solved_by(*ys), solved_by(*zs)
        c = of_product(a, b)
        self.assertEqual(c, solved_by(*[f"({y})*({z})" for y in ys for z in zs]))
        self.assertEqual(of_product(b, a), c)
        self.assertEqual(c.order(), 5)

    def test_at_most_as_many_derivatives_as_products(self):
        source = random.Random(82)
        for _ in range(6):
            a, b = some_operator(source, source.randint(0, 2)), some_operator(source, source.randint(0, 2))
            if not a.is_zero() and not b.is_zero():
                c = of_product(a, b)
                self.assertEqual(c, c.monic())
                self.assertTrue(c.order() <= a.order() * b.order())
                self.assertEqual(of_product(b, a), c)

    def test_order_zero(self):
        for a, b in ((ONE, D), (D, operator("x")), (ONE, ONE)):
            self.assertEqual(of_product(a, b), ONE)

    def test_order_one(self):
        source = random.Random(83)
        for _ in range(8):
            u, v = some_function(source), some_function(source)
            product = of_product(D - of_function(u), D - of_function(v))
            self.assertEqual(product, D - of_function(u + v))

    def test_zero(self):
        for a, b in ((ZERO, D), (D, ZERO), (ZERO, ZERO)):
            with self.assertRaises(ZeroDivisor):
                of_product(a, b)


class Powers(unittest.TestCase):
    def test_solutions(self):
        ys = ("x", "1/(x + 1)")
        a = solved_by(*ys)
        for k in range(1, 5):
            expected = solved_by(*[f"({ys[0]})^{i}*({ys[1]})^{k - i}" for i in range(k + 1)])
            self.assertEqual(of_power(a, k), expected)

    def test_the_power_one(self):
        source = random.Random(84)
        for _ in range(6):
            a = some_operator(source, 3)
            if not a.is_zero():
                self.assertEqual(of_power(a, 1), a.monic())

    def test_squares_are_products_of_one_symbol(self):
        self.assertEqual(of_power(operator("D^2 + 1"), 2), operator("D^3 + 4*D"))
        self.assertEqual(of_power(operator("D^2"), 3), operator("D^4"))
        airy = operator("D^2 - x")
        self.assertEqual(of_power(airy, 2), operator("D^3 - 4*x*D - 2"))
        self.assertEqual(of_power(operator("D^3"), 2), operator("D^5"))

    def test_the_derivative_of_the_highest_power(self):
        u = function("1/x + x")
        self.assertEqual(of_power(D - of_function(u), 7), D - of_function(of_ratio(Ratio(7)) * u))
        self.assertEqual(of_power(D - of_function(u), 10 ** 9), D - of_function(of_ratio(Ratio(10 ** 9)) * u))

    def test_order_zero(self):
        self.assertEqual(of_power(operator("x"), 3), ONE)
        self.assertEqual(of_power(operator("x"), 3, most=0), ONE)

    def test_large(self):
        for a, k, most, count in (("D^2", 3, 3, 4), ("D^3", 2, 5, 6), ("D^3 - x", 10, 60, 66), ("D", 5, 0, 1), ("D^2", 60, 60, 61),
                                  ("D^5 - x", 10 ** 6, 60, None)):
            with self.assertRaises(Refused) as held:
                of_power(operator(a), k, most=most)
            self.assertEqual(held.exception.reason, "large")
            if count is not None and count < 10:
                of_power(operator(a), k, most=count)
        with self.assertRaises(Refused):
            of_power(operator("D^3"), 10)
        self.assertEqual(of_power(operator("D"), 10, most=1), D)
        self.assertEqual(of_power(D.power(60), 1), D.power(60))
        with self.assertRaises(Refused):
            of_power(D.power(61), 1)

    def test_zero_comes_first(self):
        for most in (0, 60):
            with self.assertRaises(ZeroDivisor):
                of_power(ZERO, 100, most=most)
        with self.assertRaises(Fault):
            of_power(ZERO, 1)


if __name__ == "__main__":
    unittest.main()
