import itertools
import random
import unittest
from fractions import Fraction

from helpers import (
    fraction, fun, function, functions_of, operator, others, poly, ratio, some_function, some_operator)
from indicial.clear import cleared
from indicial.common import left_multiple
from indicial.errors import Refused
from indicial.local import Exponents
from indicial.operator import Operator, first_order
from indicial.poly import Poly
from indicial.products import PowerProduct, all_members, candidates, choices, power_products, solves
from indicial.ratio import Ratio
from indicial.roots import rational_roots
from indicial.spaces import Space, rational_space

ZERO = Operator(())


def power(*factors):
    """The power product with these factors, given by integers and Fractions."""
    return PowerProduct([(ratio(s), ratio(e)) for s, e in factors])


def factors_of(product):
    return [(fraction(s), fraction(e)) for s, e in product]


def some_factors(source, most):
    return [(Fraction(source.randint(-2, 2), source.randint(1, 2)), Fraction(source.randint(-9, 9), source.randint(1, 4)))
            for _ in range(source.randint(0, most))]


def space_of(*texts):
    return Space([(functions_of(text), ()) for text in texts])


HALF, THIRD = Fraction(1, 2), Fraction(1, 3)


class Creation(unittest.TestCase):
    def test_word_by_word(self):
        source = random.Random(200)
        for _ in range(100):
            factors = some_factors(source, 5)
            sums = {}
            for s, e in factors:
                sums[s] = sums.get(s, 0) + e
            expected = [(s, sums[s] % 1) for s in sorted(sums) if sums[s] % 1 != 0]
            pairs = [(ratio(s), ratio(e)) for s, e in factors]
            for given in (pairs, tuple(pairs)):
                product = PowerProduct(given)
                self.assertEqual(factors_of(product), expected)
                self.assertEqual(len(product), len(expected))
            self.assertEqual(pairs, [(ratio(s), ratio(e)) for s, e in factors])

    def test_examples(self):
        self.assertEqual(factors_of(power((1, HALF), (0, Fraction(-1, 3)))), [(0, Fraction(2, 3)), (1, HALF)])
        self.assertEqual(factors_of(power((1, HALF), (1, HALF))), [])
        self.assertEqual(factors_of(power((1, HALF), (0, THIRD), (1, Fraction(3, 4)))), [(0, THIRD), (1, Fraction(1, 4))])
        self.assertEqual(factors_of(power((2, 5), (3, 0), (4, -7))), [])
        self.assertEqual(factors_of(power((HALF, Fraction(7, 2)), (THIRD, Fraction(-1, 5)))), [(THIRD, Fraction(4, 5)), (HALF, HALF)])
        self.assertTrue(all(type(item) is tuple and type(item[0]) is Ratio and type(item[1]) is Ratio
                            for item in power((1, HALF))))

    def test_without_factors(self):
        for product in (PowerProduct.without_factors(), PowerProduct(()), PowerProduct([])):
            self.assertEqual((len(product), list(product), str(product)), (0, [], "1"))
            self.assertEqual(product, PowerProduct.without_factors())
            self.assertEqual(product.log_derivative(), fun((0,)))
        self.assertEqual(PowerProduct.without_factors() * power((1, HALF)), power((1, HALF)))
        self.assertEqual(PowerProduct.without_factors().surplus(power((1, HALF))), fun((1,)))

    def test_log_derivative(self):
        self.assertEqual(power((0, HALF), (2, THIRD)).log_derivative(), function("1/(2*x) + 1/(3*(x - 2))"))
        self.assertEqual(power((-1, HALF)).log_derivative(), function("1/(2*x + 2)"))

    def test_equality(self):
        self.assertTrue(power((0, HALF)) == power((0, Fraction(-1, 2))))
        self.assertFalse(power((0, HALF)) == power((0, THIRD)))
        self.assertFalse(power((0, HALF)) == power((1, HALF)))
        self.assertFalse(power((0, HALF)) == power((0, HALF), (1, HALF)))
        for value in others() + [list(power((0, HALF))), tuple(power((0, HALF)))]:
            self.assertIs(power((0, HALF)) == value, False)
            self.assertIs(PowerProduct(()) == value, False)

    def test_text(self):
        self.assertEqual(str(power((0, HALF))), "x^(1/2)")
        self.assertEqual(str(power((2, THIRD), (-1, HALF), (0, Fraction(2, 3)))), "(x + 1)^(1/2)*x^(2/3)*(x - 2)^(1/3)")
        self.assertEqual(str(power((Fraction(-3, 2), HALF), (Fraction(5, 7), Fraction(4, 9)))), "(x + 3/2)^(1/2)*(x - 5/7)^(4/9)")


class Multiplication(unittest.TestCase):
    def test_word_by_word(self):
        source = random.Random(201)
        for _ in range(60):
            left, right = some_factors(source, 4), some_factors(source, 4)
            a, b = power(*left), power(*right)
            self.assertEqual(a * b, power(*left, *right))
            sums = {}
            for s, e in factors_of(a) + factors_of(b):
                sums[s] = sums.get(s, 0) + e
            expected = fun((1,))
            for s, e in sums.items():
                if e >= 1:
                    expected = expected * fun((-s, 1))
            self.assertEqual(a.surplus(b), expected)
            # As functions, a b is a * b times the surplus.
            self.assertEqual(a.log_derivative() + b.log_derivative(),
                             (a * b).log_derivative() + expected.log_derivative())

    def test_examples(self):
        self.assertEqual(power((0, HALF)) * power((0, HALF)), PowerProduct(()))
        self.assertEqual(power((0, HALF)).surplus(power((0, HALF))), function("x"))
        self.assertEqual(power((0, HALF)).surplus(power((0, THIRD))), function("1"))
        self.assertEqual(power((0, HALF), (3, HALF)).surplus(power((0, Fraction(2, 3)), (3, Fraction(3, 4)))), function("x*(x - 3)"))
        self.assertEqual(power((0, HALF)).surplus(power((1, HALF))), function("1"))


class Candidates(unittest.TestCase):
    def check(self, text, expected):
        found = candidates(operator(text))
        self.assertEqual([(fraction(s), [fraction(c) for c in classes]) for s, classes in found], expected, text)
        self.assertIs(type(found), tuple)
        self.assertTrue(all(type(classes) is tuple for _, classes in found))

    def test_examples(self):
        self.check("2*x*D - 1", [(0, [HALF])])
        self.check("x*D - 1/3 - x/(x - 1)", [(0, [THIRD]), (1, [0])])
        self.check("x^2*D - 1", [(0, [])])
        self.check("x^2*D^2 + 1/4", [(0, [HALF])])
        self.check("x^2*D^2 - 2", [(0, [0])])
        self.check("D^2 - x", [])
        self.check("x + 1", [])
        self.check("(x^2 - 2)*D - 1", [])
        self.check("(x^2 - 2)*x*D - 1", [(0, [HALF])])
        self.check("(2*x*D - 1)*(3*x*D - 1)", [(0, [THIRD, HALF])])
        self.check("(x - 5)*(2*x + 1)*D^2 + D", [(Fraction(-1, 2), [0, Fraction(1, 11)]), (5, [0, Fraction(10, 11)])])

    def test_word_by_word(self):
        source = random.Random(202)
        for _ in range(40):
            op = some_operator(source, source.randint(1, 2))
            if op.is_zero():
                continue
            a = cleared(op, ())[0]
            expected = []
            for s in rational_roots(a[-1]):
                exponents = Exponents(a, Poly((-s, 1))).rationals()
                expected.append((fraction(s), sorted({fraction(e) % 1 for e in exponents})))
            found = [(fraction(s), [fraction(c) for c in classes]) for s, classes in candidates(op)]
            self.assertEqual(found, expected)

    def test_ordinary_points_have_the_class_zero(self):
        # y = P R with a factor x - s asks for a zero of the last coefficient.
        self.check("D^3 + x*D + 1", [])
        self.check("x*D^2 - x*D + x^2", [])

    def test_zero(self):
        for act in (candidates, power_products):
            with self.assertRaises(Refused) as held:
                act(ZERO)
            self.assertEqual(held.exception.reason, "zero")


def by_choices(op):
    """The pairs of point 10.4: each choice of one class at each candidate is tried."""
    places = [[(s, e) for e in classes] for s, classes in candidates(op)]
    found = []
    for factors in itertools.product(*places):
        product = PowerProduct(factors)
        space = rational_space(op.moved(product.log_derivative()))
        if len(space) > 0:
            found.append((product, space))
    return tuple(found)


class Solutions(unittest.TestCase):
    def check(self, op):
        found = power_products(op)
        self.assertEqual(found, by_choices(op))
        for product, space in found:
            self.assertEqual((space.size, space.sides), (1, 0))
            self.assertTrue(len(space) > 0)
            for ys, _ in space:
                self.assertIs(solves(op, product, ys[0]), True)
        members = list(all_members(op))
        self.assertEqual(members, [(product, ys[0]) for product, space in found for ys, _ in space])
        return found

    def test_examples(self):
        half = power((0, HALF))
        self.assertEqual(self.check(operator("2*x*D - 1")), ((half, space_of("1")),))
        self.assertEqual(self.check(operator("x*D - 1/3 - x/(x - 1)")), ((power((0, THIRD)), space_of("x - 1")),))
        self.assertEqual(self.check(operator("x^2*D - 1")), ())
        self.assertEqual(self.check(operator("x^2*D^2 + 1/4")), ((half, space_of("1")),))
        self.assertEqual(self.check(operator("x^2*D^2 - 2")), ((PowerProduct(()), space_of("x^2", "1/x")),))
        self.assertEqual(self.check(operator("D")), ((PowerProduct(()), space_of("1")),))
        self.assertEqual(self.check(operator("D - 1")), ())
        self.assertEqual(self.check(operator("x")), ())

    def test_order(self):
        first, second = (operator("2*x*D - 1"), operator("4*x*D - 3*x/(x - 1)"))
        op = left_multiple(left_multiple(first, second)[0], left_multiple(operator("D"), operator("4*x*D - 1 - x/(x - 1)"))[0])[0]
        self.assertEqual([str(product) for product, _ in self.check(op)],
                         ["1", "(x - 1)^(3/4)", "x^(1/4)*(x - 1)^(1/4)", "x^(1/2)"])

    def test_planted_products(self):
        source = random.Random(203)
        for _ in range(20):
            op = operator("1")
            members = []
            for _ in range(source.randint(1, 2)):
                product = power(*[(source.randint(-1, 1), Fraction(source.randint(1, 3), 4)) for _ in range(source.randint(0, 2))])
                f = some_function(source, 1)
                if not f.is_zero():
                    members.append((product, f))
                    op = left_multiple(op, first_order(product.log_derivative() + f.log_derivative()))[0]
            op = some_operator(source, source.randint(0, 1)) * op
            if op.is_zero():
                continue
            found = self.check(op)
            for product, f in members:
                self.assertTrue(any(one == product and ((f,), ()) in space for one, space in found))

    def test_all_of_them_are_found(self):
        # The operator of the least order with these solutions has no others of this form.
        op = operator("1")
        for factors, text in (([(0, HALF)], "1"), ([(0, HALF)], "1/x^3"), ([(0, HALF), (1, THIRD)], "x + 5"), ([], "1/(x^2 + 1)")):
            op = left_multiple(op, first_order(power(*factors).log_derivative() + function(text).log_derivative()))[0]
        self.assertEqual(self.check(op), ((PowerProduct(()), space_of("1/(x^2 + 1)")), (power((0, HALF)), space_of("1", "1/x^3")),
                                          (power((0, HALF), (1, THIRD)), space_of("x + 5"))))

    def test_places_that_are_not_rational(self):
        op = first_order(function("1/(2*x)") + function("(x^2 - 2)^-3*x").log_derivative())
        self.assertEqual(self.check(op), ((power((0, HALF)), space_of("x/(x^2 - 2)^3")),))
        # Without a rational exponent at the square roots of 2, or with one that is no integer.
        self.assertEqual(self.check(operator("2*x*(x^2 - 2)*D - 1")), ())
        self.assertEqual(self.check(operator("2*x*(x^2 - 2)*D - (x^2 - 2) - 2*x^2")), ())

    def test_coefficients_that_are_zero(self):
        self.assertEqual(self.check(operator("(x^2 - 2)*D^2 - 2")), ((PowerProduct(()), space_of("x^2 - 2")),))
        self.assertEqual(self.check(operator("x^2*(x^2 - 2)*D^3")), ((PowerProduct(()), space_of("x^2", "x", "1")),))

    def test_choices_that_are_tried(self):
        def tried(text):
            return [str(PowerProduct(factors)) for factors in choices(cleared(operator(text), ())[0])]

        # Exponents 0 and 1/2 at 0 and at 1, and 0 and n at infinity.
        sums = "(1/2)*(1/x + 1/(x - 1))"
        self.assertEqual(tried(f"D^2 + {sums}*D"), ["1"])
        self.assertEqual(tried(f"D^2 + {sums}*D - 9/(x*(x - 1))"), ["1", "x^(1/2)*(x - 1)^(1/2)"])
        self.assertEqual(tried(f"D^2 + {sums}*D - 1/(4*x*(x - 1))"), ["(x - 1)^(1/2)", "x^(1/2)"])
        self.assertEqual(tried(f"D^2 + {sums}*D - 1/(5*x*(x - 1))"), [])

    def test_many_candidates(self):
        # The greatest exponent at infinity leaves one of 2^14 choices.
        text = " + ".join(f"1/(x - {k})" for k in range(1, 15))
        found = power_products(operator(f"D^2 + 1/2*({text})*D"))
        self.assertEqual(found, ((PowerProduct(()), space_of("1")),))

    def test_members_of_zero(self):
        members = all_members(ZERO)
        with self.assertRaises(Refused) as held:
            next(members)
        self.assertEqual(held.exception.reason, "zero")


class Solves(unittest.TestCase):
    def test_word_by_word(self):
        source = random.Random(204)
        for _ in range(30):
            product = power(*some_factors(source, 2))
            f = some_function(source, 1)
            op = some_operator(source, source.randint(0, 2))
            # P' = u P: the derivatives of P f are P times (D + u) f.
            u = product.log_derivative()
            image, part = fun((0,)), f
            for k in range(len(op)):
                image = image + op[k] * part
                part = part.derivative() + u * part
            self.assertIs(solves(op, product, f), image.is_zero())
            if not f.is_zero():
                self.assertIs(solves(op * first_order(u + f.log_derivative()), product, f), True)

    def test_examples(self):
        half = power((0, HALF))
        self.assertIs(solves(operator("2*x*D - 1"), half, fun((1,))), True)
        self.assertIs(solves(operator("2*x*D - 1"), half, fun((0, 1))), False)
        self.assertIs(solves(operator("2*x*D - 1"), half, fun((0,))), True)
        self.assertIs(solves(operator("2*x*D - 1"), PowerProduct(()), fun((1,))), False)
        self.assertIs(solves(ZERO, half, fun((1,))), True)
        self.assertIs(solves(operator("D"), PowerProduct(()), fun((3,))), True)


if __name__ == "__main__":
    unittest.main()
