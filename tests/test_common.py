import random
import unittest

from helpers import function, operator, some_function, some_operator
from indicial.common import left_multiple, quotient, right_divisor, share
from indicial.errors import ZeroDivisor
from indicial.operator import Operator, annihilator, derivation, of_function
from indicial.ratfun import of_ratio
from indicial.ratio import Ratio
from indicial.text import show_operator

ZERO = Operator(())
ONE = of_function(of_ratio(Ratio(1)))
D = derivation()


def pairs(seed, count=20):
    """Pairs of operators, many of them with a common divisor."""
    source = random.Random(seed)
    found = []
    for _ in range(count):
        common = some_operator(source, source.randint(0, 2))
        found.append((some_operator(source, source.randint(0, 2)) * common,
                      some_operator(source, source.randint(0, 2)) * common))
    return found


class Divisors(unittest.TestCase):
    def check(self, a, b):
        found = right_divisor(a, b)
        self.assertIs(type(found), tuple)
        g, u, v = found
        self.assertEqual(u * a + v * b, g)
        self.assertIsNotNone(quotient(a, g))
        self.assertIsNotNone(quotient(b, g))
        if not b.is_zero():
            self.assertEqual(g.monic(), g)
            k = b.order() - g.order()
            self.assertTrue(u.is_zero() if k == 0 else u.order() < k, (u.order(), k))
        return g

    def test_random_pairs(self):
        for a, b in pairs(70):
            g = self.check(a, b)
            self.assertEqual(self.check(b, a), g)
            if not a.is_zero() and not b.is_zero():
                self.assertTrue(g.order() >= 0)

    def test_the_common_divisor_is_found(self):
        for common, left, right in (("D - 1/x", "D", "x*D + 1"), ("x*D^2 - 1", "D - x", "D + x"), ("D^2", "D", "x")):
            a, b = operator(left) * operator(common), operator(right) * operator(common)
            self.assertEqual(self.check(a, b), operator(common).monic())

    def test_common_solutions(self):
        first, second, third = (annihilator(function(text)) for text in ("x^2 + 1", "1/x", "x - 3"))
        a, b = left_multiple(first, second)[0], left_multiple(second, third)[0]
        self.assertEqual(self.check(a, b), second)

    def test_examples(self):
        self.assertEqual(self.check(operator("D^2 - 1"), operator("D - 1")), operator("D - 1"))
        self.assertEqual(self.check(D, operator("x*D")), D)
        self.assertEqual(self.check(D, operator("D - 1")), ONE)
        self.assertEqual(right_divisor(operator("D^2"), operator("2*D")), (D, ZERO, operator("1/2")))
        self.assertEqual(self.check(operator("x"), operator("x^2*D^2")), ONE)

    def test_zero(self):
        self.assertEqual(right_divisor(ZERO, ZERO), (ZERO, ZERO, ZERO))
        self.assertEqual(right_divisor(operator("x*D"), ZERO), (D, operator("1/x"), ZERO))
        self.assertEqual(right_divisor(operator("x"), ZERO), (ONE, operator("1/x"), ZERO))
        self.assertEqual(right_divisor(ZERO, operator("x*D")), (D, ZERO, operator("1/x")))
        self.assertEqual(right_divisor(ZERO, operator("2")), (ONE, ZERO, operator("1/2")))


class Multiples(unittest.TestCase):
    def test_random_pairs(self):
        for a, b in pairs(71):
            if a.is_zero() or b.is_zero():
                continue
            found = left_multiple(a, b)
            self.assertIs(type(found), tuple)
            m, u, v = found
            self.assertEqual(m, m.monic())
            self.assertEqual((u * a, v * b), (m, m))
            self.assertEqual(m.order(), a.order() + b.order() - right_divisor(a, b)[0].order())
            self.assertEqual(left_multiple(b, a), (m, v, u))

    def test_examples(self):
        m, u, v = left_multiple(operator("D - 1"), D)
        self.assertEqual(show_operator(m), "D^2 + (-1)*D")
        self.assertEqual((u, v), (D, operator("D - 1")))
        a = operator("x*D - 2")
        self.assertEqual(left_multiple(a, a), (a.monic(), operator("1/x"), operator("1/x")))
        self.assertEqual(left_multiple(operator("x"), operator("x^2")), (ONE, operator("1/x"), operator("1/x^2")))
        self.assertEqual(left_multiple(D, operator("x")), (D, ONE, D * operator("1/x")))

    def test_solutions(self):
        source = random.Random(72)
        for _ in range(8):
            ys = [some_function(source, 2) for _ in range(3)]
            found = ONE
            for y in ys:
                if not y.is_zero():
                    found = left_multiple(found, annihilator(y))[0]
            for y in ys:
                self.assertTrue(found(y).is_zero())

    def test_zero(self):
        for a, b in ((ZERO, D), (D, ZERO), (ZERO, ZERO)):
            with self.assertRaises(ZeroDivisor):
                left_multiple(a, b)


class Quotients(unittest.TestCase):
    def test_quotients(self):
        source = random.Random(73)
        for _ in range(15):
            q, m = some_operator(source, 2), some_operator(source, 2)
            if not m.is_zero():
                self.assertEqual(quotient(q * m, m), q)
                self.assertEqual(quotient(ZERO, m), ZERO)
                if m.order() > 0:
                    self.assertIsNone(quotient(q * m + ONE, m))
        self.assertIsNone(quotient(D * operator("D - x"), D))
        self.assertEqual(quotient(operator("x*D"), D), operator("x"))
        self.assertIsNone(quotient(operator("x"), D))

    def test_zero(self):
        self.assertEqual(quotient(ZERO, ZERO), ZERO)
        for a in (ONE, D, operator("x")):
            self.assertIsNone(quotient(a, ZERO))


class Sharing(unittest.TestCase):
    def test_share(self):
        for a, b in pairs(74):
            self.assertIs(share(a, b), right_divisor(a, b)[0].order() > 0)
            self.assertIs(share(b, a), share(a, b))
        self.assertIs(share(operator("D^2 - 1"), operator("D - 1")), True)
        self.assertIs(share(operator("D*x"), D), False)

    def test_zero(self):
        for a, b, expected in ((ZERO, ZERO, False), (ZERO, D, True), (D, ZERO, True), (ZERO, ONE, False), (ONE, ZERO, False),
                               (ONE, ONE, False)):
            self.assertIs(share(a, b), expected)


if __name__ == "__main__":
    unittest.main()
