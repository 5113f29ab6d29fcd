import random
import unittest
from fractions import Fraction

from helpers import (
    X, fun, function, functions_of, operator, others, poly, polys_of, ratio, some_function, some_nonzero,
    some_operator, vector)
from indicial.clear import cleared
from indicial.common import left_multiple
from indicial.divisor import balanced, multiplicity
from indicial.errors import Malformed, Refused
from indicial.linear import Matrix
from indicial.local import degree_bound, least_order
from indicial.operator import Operator, annihilator, of_function
from indicial.poly import Poly, monomial, product
from indicial.ratfun import RatFun, added, of_poly, of_ratio
from indicial.ratio import Ratio
from indicial.spaces import Space, denominator_bound, equations, polynomial_space, rational_space

ZERO = Operator(())


def pair(ys, cs=()):
    """The pair of the functions with these texts (one, or joined by ;) and these numbers."""
    return functions_of(*ys.split(";")), vector(*cs)


def basis(*pairs):
    return [pair(*item) for item in pairs]


def combined(items, weights):
    """The sum of pairs multiplied by numbers."""
    ys = [added([of_ratio(w) * y for w, y in zip(weights, column)]) for column in zip(*[ys for ys, _ in items])]
    cs = [sum_of([w * c for w, c in zip(weights, column)]) for column in zip(*[cs for _, cs in items])]
    return tuple(ys), tuple(cs)


def sum_of(numbers):
    found = Ratio(0)
    for number in numbers:
        found = found + number
    return found


def some_pairs(source, count, size, sides):
    return [(tuple(some_function(source, 1) for _ in range(size)), tuple(ratio(source.randint(-3, 3)) for _ in range(sides)))
            for _ in range(count)]


def vector_of(item, d, top):
    ys, cs = item
    row = list(cs)
    for y in ys:
        p = y * of_poly(d)
        row += [p.num.coefficient(k) for k in range(top, -1, -1)]
    return tuple(row)


class Creation(unittest.TestCase):
    def test_basis_word_by_word(self):
        source = random.Random(130)
        for _ in range(30):
            size, sides = source.randint(1, 3), source.randint(0, 2)
            pairs = some_pairs(source, source.randint(0, 4), size, sides)
            space = Space(pairs, size=size, sides=sides)
            d, top = space.least_denominator(), space.top_degree()
            self.assertEqual(d.monic(), d)
            ys = [y for ys, _ in pairs for y in ys]
            for y in ys:
                self.assertTrue((y * of_poly(d)).is_polynomial())
            for p in balanced([y.den for y in ys]):
                # One factor less is not enough.
                self.assertTrue(all((y * of_poly(d // p)).is_polynomial() for y in ys) is False)
            self.assertEqual(top, max([(y * of_poly(d)).num.degree() for y in ys], default=-1))
            matrix = Matrix([vector_of(item, d, top) for item in pairs], sides + size * (top + 1)).reduced()[0]
            self.assertEqual([vector_of(item, d, top) for item in space], list(matrix))
            self.assertEqual(len(space), len(matrix))

    def test_the_basis_does_not_depend_on_the_pairs(self):
        source = random.Random(131)
        for _ in range(20):
            size, sides = source.randint(1, 2), source.randint(0, 2)
            pairs = some_pairs(source, 3, size, sides)
            space = Space(tuple(pairs), size=size, sides=sides)
            mixed = [combined(pairs, [ratio(n) for n in weights]) for weights in ((1, 2, 0), (0, 1, -1), (1, 0, 1), (1, 1, 1))]
            mixed.append(pairs[2])
            other = Space(mixed[::-1], size=size, sides=sides)
            self.assertEqual(list(other), list(space))
            self.assertTrue(other == space)

    def test_examples(self):
        space = Space(basis(("x + 1",), ("x - 1",), ("2*x",)))
        self.assertEqual(list(space), basis(("x",), ("1",)))
        self.assertEqual((len(space), space.size, space.sides), (2, 1, 0))
        self.assertEqual((space.least_denominator(), space.top_degree()), (poly(1), 1))
        space = Space(basis(("1/x^2",), ("1/(x*(x - 1))",)))
        self.assertEqual((space.least_denominator(), space.top_degree()), (poly(0, 0, -1, 1), 1))
        self.assertEqual(list(space), basis(("x/(x^3 - x^2)",), ("1/(x^3 - x^2)",)))
        space = Space([pair("x;1/x", (1, 2)), pair("0;0", (0, 1))], size=2, sides=2)
        self.assertEqual(list(space), [pair("x;1/x", (1, 0)), pair("0;0", (0, 1))])

    def test_the_zero_space(self):
        for pairs in ([], (), basis(("0",)), basis(("0",), ("0",))):
            space = Space(pairs)
            self.assertEqual((list(space), len(space), space.least_denominator(), space.top_degree()), ([], 0, poly(1), -1))
            self.assertEqual(space, Space(()))
        space = Space([pair("0;0", (0, 0, 0))], size=2, sides=3)
        self.assertEqual((len(space), space.size, space.sides), (0, 2, 3))
        self.assertIn(pair("0;0", (0, 0, 0)), space)
        self.assertNotIn(pair("1;0", (0, 0, 0)), space)

    def test_numbers_without_functions(self):
        space = Space([pair("0", (2, 1))], sides=2)
        self.assertEqual(list(space), [pair("0", (1, Fraction(1, 2)))])
        self.assertEqual((space.least_denominator(), space.top_degree()), (poly(1), -1))

    def test_malformed(self):
        good = pair("x", (1,))
        for pairs, size, sides in (
                ([], 0, 0), ([], -1, 0), ([], 1, -1), ([], True, 0), ([], 1, False), ([], None, 0), ([], "1", 0), ([], Ratio(1), 0),
                ([good], 1, 0), ([good], 2, 1), ([good], 1, 2), ([good, pair("x")], 1, 1), ([fun((1,))], 1, 0),
                ([(fun((1,)), ())], 1, 0), ([([fun((1,))], ())], 1, 0), ([((fun((1,)),), [])], 1, 0), ([((X,), ())], 1, 0),
                ([((fun((1,)),), (1,))], 1, 1), ([((fun((1,)),),)], 1, 0), ([[(fun((1,)),), ()]], 1, 0), ([None], 1, 0),
                ([((fun((1,)),), (), ())], 1, 0)):
            with self.assertRaises(Malformed, msg=(pairs, size, sides)):
                Space(pairs, size=size, sides=sides)

    def test_arguments_stay(self):
        pairs = basis(("x",), ("x",))
        space = Space(pairs)
        pairs.append(pair("1"))
        self.assertEqual(len(space), 1)


class Membership(unittest.TestCase):
    def test_combinations_belong(self):
        source = random.Random(132)
        for _ in range(25):
            size, sides = source.randint(1, 3), source.randint(0, 2)
            pairs = some_pairs(source, source.randint(1, 3), size, sides)
            space = Space(pairs, size=size, sides=sides)
            inside = combined(pairs, [Ratio(source.randint(-9, 9), source.randint(1, 9)) for _ in pairs])
            self.assertIs(inside in space, True)
            for other in some_pairs(source, 4, size, sides):
                self.assertIs(other in space, len(Space(pairs + [other], size=size, sides=sides)) == len(space))

    def test_examples(self):
        space = Space(basis(("x",), ("1/x",)))
        for text, expected in (("x + 3/x", True), ("0", True), ("1", False), ("x^2", False), ("1/x^2", False), ("1/(x + 1)", False),
                               ("x - 1/(2*x)", True), ("x + 1", False)):
            self.assertIs(pair(text) in space, expected, text)

    def test_pairs_of_other_forms(self):
        space = Space(basis(("x",)))
        for value in others() + [pair("x", (1,)), pair("x;x"), (pair("x")[0], []), [pair("x")[0], ()]]:
            self.assertIs(value in space, False)

    def test_equality(self):
        space = Space(basis(("x",)))
        self.assertTrue(space == Space(basis(("3*x",))))
        self.assertFalse(space == Space(basis(("1/x",))))
        self.assertFalse(space == Space(basis(("x",), ("1",))))
        self.assertFalse(Space([]) == Space([], size=2))
        self.assertFalse(Space([]) == Space([], sides=1))
        self.assertTrue(Space([], size=2, sides=1) == Space((), size=2, sides=1))
        for value in others() + [list(space), pair("x")]:
            self.assertIs(space == value, False)


class Solution(unittest.TestCase):
    def test_with_sides(self):
        space = Space([pair("x", (1, 0)), pair("1/x", (0, 1)), pair("1", (0, 0))], sides=2)
        self.assertEqual(space.solution(vector(1, 0)), functions_of("x"))
        self.assertEqual(space.solution(vector(2, -3)), functions_of("2*x - 3/x"))
        self.assertEqual(space.solution(vector(0, 0)), functions_of("0"))
        space = Space([pair("x + 1", (1, 1)), pair("1", (0, 0))], sides=2)
        self.assertEqual(space.solution(vector(2, 2)), functions_of("2*x"))
        self.assertIsNone(space.solution(vector(1, 0)))
        self.assertIsNone(space.solution(vector(1, 2)))
        self.assertIsNone(space.solution(vector(2)))
        self.assertEqual(Space([], sides=1).solution(vector(0)), functions_of("0"))
        self.assertIsNone(Space([], sides=1).solution(vector(1)))

    def test_without_sides(self):
        self.assertEqual(Space(basis(("x",))).solution(()), functions_of("0"))
        self.assertEqual(Space([], size=3).solution(()), functions_of("0", "0", "0"))

    def test_word_by_word(self):
        source = random.Random(133)
        for _ in range(25):
            size, sides = source.randint(1, 2), source.randint(1, 3)
            pairs = some_pairs(source, source.randint(1, 4), size, sides)
            space = Space(pairs, size=size, sides=sides)
            d, top = space.least_denominator(), space.top_degree()
            pivots = [next(k for k, c in enumerate(vector_of(item, d, top)) if not c.is_zero()) for item in space]
            cs = combined(pairs, [ratio(source.randint(-2, 2)) for _ in pairs])[1]
            ys = space.solution(cs)
            self.assertIs(type(ys), tuple)
            self.assertIn((ys, cs), space)
            row = vector_of((ys, cs), d, top)
            self.assertTrue(all(row[k].is_zero() for k in pivots if k >= sides))
            other = tuple(ratio(source.randint(-2, 2)) for _ in range(sides))
            rank = Matrix([cs for _, cs in space], sides).rank()
            belongs = Matrix([cs for _, cs in space] + [other], sides).rank() == rank
            self.assertIs(space.solution(other) is not None, belongs)

    def test_homogeneous(self):
        space = Space([pair("x", (1, 0)), pair("1/x", (0, 1)), pair("1", (0, 0)), pair("x^2", (1, 1))], sides=2)
        self.assertEqual(space.homogeneous(), Space(basis(("1",), ("x^2 - x - 1/x",))))
        self.assertEqual((space.homogeneous().sides, space.homogeneous().size), (0, 1))
        space = Space([pair("x;1", (1,)), pair("x;1", (2,))], size=2, sides=1)
        self.assertEqual(space.homogeneous(), Space([pair("x;1")], size=2))
        space = Space(basis(("x",)))
        self.assertEqual(space.homogeneous(), space)
        self.assertEqual(len(Space([pair("x", (1,))], sides=1).homogeneous()), 0)


class Denominators(unittest.TestCase):
    def test_examples(self):
        self.assertEqual(denominator_bound(operator("D - 1/x"), ()), (poly(1), ((X, 0),)))
        self.assertEqual(denominator_bound(operator("x*D + 2"), ()), (poly(0, 0, 1), ((X, 2),)))
        self.assertEqual(denominator_bound(operator("D"), functions_of("1/x", "1/x^2")), (X, ((X, 1),)))
        self.assertEqual(denominator_bound(operator("D"), ()), (poly(1), ()))
        self.assertEqual(denominator_bound(operator("x^2*D - 1"), ()), (poly(1), ((X, 0),)))
        self.assertEqual(denominator_bound(operator("D"), functions_of("0")), (poly(1), ()))
        self.assertEqual(denominator_bound(operator("x"), functions_of("1")), (X, ((X, 1),)))
        self.assertEqual(denominator_bound(operator("D"), functions_of("x")), (poly(1), ()))

    def test_word_by_word(self):
        source = random.Random(134)
        for _ in range(30):
            op = some_operator(source, source.randint(0, 3))
            rights = tuple(some_function(source, 2) for _ in range(source.randint(0, 2)))
            if op.is_zero():
                continue
            a, g = cleared(op, rights)
            sources = [h for h in g if not h.is_zero()]
            expected = []
            for p in balanced([f for f in a if not f.is_zero()] + sources):
                if p.divides(a[-1]):
                    low = min([multiplicity(p, h) for h in sources]) if sources else None
                    least = least_order(a, p, low)
                    expected.append((p, -least if least is not None and least < 0 else 0))
            d, factors = denominator_bound(op, rights)
            self.assertEqual(factors, tuple(expected))
            self.assertEqual(d, product([p.power(k) for p, k in expected]))
            for ys, cs in rational_space(op, rights):
                self.assertTrue((ys[0] * of_poly(d)).is_polynomial())

    def test_zero(self):
        for act in (denominator_bound, rational_space, polynomial_space):
            for rights in ((), functions_of("1")):
                with self.assertRaises(Refused) as held:
                    act(ZERO, rights)
                self.assertEqual(held.exception.reason, "zero")


class Equations(unittest.TestCase):
    def test_examples(self):
        found = equations(polys_of("-1", "x"), (), 1)
        self.assertEqual(found, Matrix([vector(-1, 0)], 2))
        self.assertEqual(equations(polys_of("-1", "x"), (), -1), Matrix((), 0))
        self.assertEqual(equations(polys_of("0", "1"), (), 0), Matrix((), 1))
        self.assertEqual(equations(polys_of("0", "x"), polys_of("0"), -1), Matrix((), 1))
        self.assertEqual(equations(polys_of("0", "x"), polys_of("3*x^2 + 1"), -1), Matrix([vector(-1), vector(0), vector(-3)], 1))

    def test_word_by_word(self):
        source = random.Random(135)
        for _ in range(25):
            a = tuple(some_nonzero(source, source.randint(0, 2), 4) for _ in range(source.randint(1, 3)))
            g = tuple(some_nonzero(source, source.randint(0, 5), 4) for _ in range(source.randint(0, 2)))
            degree = source.randint(-1, 4)
            columns = [Operator([of_poly(p) for p in a])(of_poly(monomial(1, k))).num for k in range(degree + 1)] + [-h for h in g]
            height = max([p.degree() + 1 for p in columns], default=0)
            rows = [[p.coefficient(n) for p in columns] for n in range(height)]
            self.assertEqual(equations(a, g, degree), Matrix(rows, degree + 1 + len(g)))


class Solving(unittest.TestCase):
    def check(self, op, rights=()):
        space = rational_space(op, rights)
        self.assertEqual((space.size, space.sides), (1, len(rights)))
        self.assertTrue(len(space) <= len(rights) + max(op.order(), 0))
        for ys, cs in space:
            self.assertEqual(op(ys[0]), added([of_ratio(c) * g for c, g in zip(cs, rights)]))
        return space

    def test_examples(self):
        self.assertEqual(list(self.check(operator("D - 1/x"))), basis(("x",)))
        self.assertEqual(list(self.check(operator("x*D + 2"))), basis(("1/x^2",)))
        self.assertEqual(list(self.check(operator("D"), functions_of("1/x", "1/x^2"))), basis(("-1/x", (0, 1)), ("1", (0, 0))))
        self.assertEqual(list(self.check(operator("x^2*D^2 + x*D - 1"))), basis(("x",), ("1/x",)))
        self.assertEqual(list(self.check(operator("D - 1"))), [])
        self.assertEqual(list(self.check(operator("x^2*D - 1"))), [])
        self.assertEqual(list(self.check(operator("(x^2 - 2)*D - 1"))), [])
        self.assertEqual(list(self.check(operator("(x^2 - 2)*D + 6*x"))), basis(("1/(x^2 - 2)^3",)))

    def test_planted_solutions(self):
        source = random.Random(136)
        for _ in range(30):
            ys = [some_function(source, 2) for _ in range(source.randint(1, 3))]
            op = operator("1")
            for y in ys:
                if not y.is_zero():
                    op = left_multiple(op, annihilator(y))[0]
            op = some_operator(source, source.randint(0, 1)) * op
            if op.is_zero():
                continue
            space = self.check(op)
            for y in ys:
                self.assertIn(((y,), ()), space)

    def test_all_solutions_are_found(self):
        # The operator of the least order with these solutions has no others.
        for texts in (("x", "1/(x - 1)^3"), ("x^5", "1/x^4"), ("1/(x^2 + 1)", "x/(x^2 + 1)^2", "7"), ("x^12 + 1",), ("1", "x", "x^2", "x^3")):
            op = operator("1")
            for text in texts:
                op = left_multiple(op, annihilator(function(text)))[0]
            self.assertEqual(self.check(op), Space(basis(*[(text,) for text in texts])))

    def test_right_sides(self):
        source = random.Random(137)
        for _ in range(25):
            op = some_operator(source, source.randint(0, 2))
            if op.is_zero():
                continue
            y = some_function(source, 2)
            rights = (some_function(source), op(y), some_function(source))
            space = self.check(op, rights)
            self.assertIn(((y,), vector(0, 1, 0)), space)
            self.assertEqual(space.homogeneous(), self.check(op))
            for k, right in enumerate(rights):
                one = self.check(op, (right,))
                cs = vector(*[int(j == k) for j in range(3)])
                self.assertEqual(one.solution(vector(1)) is None, space.solution(cs) is None)

    def test_right_sides_that_combine(self):
        rights = functions_of("1/x", "1/x + 1/x^2", "3/x")
        space = self.check(operator("D"), rights)
        self.assertEqual(len(space), 3)
        self.assertIn(pair("-1/x", (-1, 1, 0)), space)
        self.assertIn(pair("0", (3, 0, -1)), space)
        self.assertNotIn(pair("0", (1, 0, 0)), space)

    def test_right_sides_that_are_zero(self):
        space = self.check(operator("D - 1"), functions_of("0", "1", "0"))
        self.assertEqual(list(space), basis(("0", (1, 0, 0)), ("-1", (0, 1, 0)), ("0", (0, 0, 1))))
        space = self.check(operator("x*D + 2"), functions_of("0"))
        self.assertEqual(list(space), basis(("0", (1,)), ("1/x^2", (0,))))

    def test_order_zero(self):
        self.assertEqual(list(self.check(operator("x"))), [])
        self.assertEqual(list(self.check(operator("x"), functions_of("1", "x"))), basis(("1/x", (1, 0)), ("1", (0, 1))))
        self.assertEqual(list(self.check(operator("2"), functions_of("0"))), basis(("0", (1,))))

    def test_large_degrees(self):
        self.assertEqual(list(self.check(operator("x*D - 300"))), [((of_poly(monomial(1, 300)),), ())])
        self.assertEqual(list(self.check(operator("x*D + 300"))), [((of_poly(monomial(1, 300)).inverse(),), ())])
        power = Poly((Ratio(1), Ratio(1))).power(200)
        self.assertEqual(list(self.check(operator("(x + 1)*D - 200"))), [((of_poly(power),), ())])
        space = self.check(operator("(1 - x^2)*D^2 - 2*x*D + 60*61"))
        self.assertEqual((len(space), space.top_degree()), (1, 60))

    def test_the_moved_equation(self):
        # Point 8.5 word by word: the degrees of the numerators are bounded by that of the equation of u.
        source = random.Random(140)
        for _ in range(20):
            y = some_function(source, 2)
            if y.is_zero():
                continue
            op = some_operator(source, 1) * annihilator(y)
            if op.is_zero():
                continue
            rights = (op(function("1/x + x")),)
            d = denominator_bound(op, rights)[0]
            if d.degree() > 40:
                continue
            b, h = cleared(op * of_function(of_poly(d).inverse()), rights)
            degree = degree_bound(b, max([p.degree() for p in h if not p.is_zero()], default=None))
            kernel = equations(b, h, degree).kernel()
            pairs = [((RatFun(Poly(row[:degree + 1]), d),), row[degree + 1:]) for row in kernel]
            self.assertEqual(Space(pairs, sides=1), self.check(op, rights))


class Polynomials(unittest.TestCase):
    def test_examples(self):
        self.assertEqual(list(polynomial_space(operator("x^2*D^2 + x*D - 1"))), basis(("x",)))
        self.assertEqual(list(polynomial_space(operator("x*D + 2"))), [])
        self.assertEqual(list(polynomial_space(operator("D"), functions_of("1/x^2", "x"))), basis(("1/2*x^2", (0, 1)), ("1", (0, 0))))
        self.assertEqual(list(polynomial_space(operator("D - 1"))), [])
        self.assertEqual(list(polynomial_space(operator("x"), functions_of("x^2", "1"))), basis(("x", (1, 0))))

    def test_those_of_the_rational_space(self):
        source = random.Random(139)
        for _ in range(25):
            y = of_poly(some_nonzero(source, 3))
            op = left_multiple(annihilator(y), annihilator(function("1/x")))[0]
            rights = (op(function("x^2")), op(function("1/x^2")), some_function(source))
            space = polynomial_space(op, rights)
            self.assertEqual((space.size, space.sides), (1, 3))
            whole = rational_space(op, rights)
            for ys, cs in space:
                self.assertTrue(ys[0].is_polynomial())
                self.assertIn((ys, cs), whole)
            self.assertIn(((y,), vector(0, 0, 0)), space)
            self.assertIn(pair("x^2", (1, 0, 0)), space)
            # The pairs of the whole space whose function is a polynomial: no other multiple of 1/x.
            kept = [item for item in whole if item[0][0].is_polynomial()]
            self.assertTrue(all(item in space for item in kept))


if __name__ == "__main__":
    unittest.main()
