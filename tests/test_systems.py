import random
import unittest
from fractions import Fraction

from helpers import fun, function, functions_of, operator, some_function, some_operator, vector
from indicial.errors import Malformed, Refused
from indicial.operator import Operator, derivation, of_function
from indicial.ratfun import added, of_ratio
from indicial.ratio import Ratio
from indicial.spaces import Space, rational_space
from indicial.systems import companion, first_equation, inverse_matrix, system_space

ZERO, ONE = fun(()), fun((1,))


def rows(*texts):
    """The rows of a matrix, each given by texts that are joined by a semicolon."""
    return tuple(functions_of(*text.split(";")) for text in texts)


def multiplied(a, b):
    return tuple(tuple(added([f * row[k] for f, row in zip(line, b)]) for k in range(len(b[0]))) for line in a)


def unit(n):
    return tuple(tuple(ONE if i == j else ZERO for j in range(n)) for i in range(n))


def some_matrix(source, n, degree=1, share=0.6):
    return tuple(tuple(some_function(source, degree) if source.random() < share else ZERO for _ in range(n)) for _ in range(n))


def some_invertible(source, n):
    while True:
        found = some_matrix(source, n)
        if inverse_matrix(found) is not None:
            return found


def slope(a):
    return tuple(tuple(f.derivative() for f in row) for row in a)


def pair(ys, cs=()):
    return functions_of(*ys.split(";")), vector(*cs)


class Solving(unittest.TestCase):
    def check(self, a, rights=()):
        space = system_space(a, rights)
        self.assertEqual((space.size, space.sides), (len(a), len(rights)))
        self.assertTrue(len(space) <= len(a) + len(rights))
        for ys, cs in space:
            for i, row in enumerate(a):
                given = [of_ratio(c) * right[i] for c, right in zip(cs, rights)]
                self.assertEqual(ys[i].derivative(), added([f * y for f, y in zip(row, ys)] + given))
        return space

    def test_examples(self):
        space = self.check(rows("0;1/x", "1/x;0"))
        self.assertEqual(list(space), [pair("x;x"), pair("1/x;-1/x")])
        space = self.check(rows("0;0", "1;0"))
        self.assertEqual(list(space), [pair("1;x"), pair("0;1")])
        self.assertEqual(list(self.check(rows("1"))), [])
        self.assertEqual(list(self.check(rows("2/x"))), [pair("x^2")])
        self.assertEqual(list(self.check(rows("0"), (functions_of("1"), functions_of("1/x")))), [pair("x", (1, 0)), pair("1", (0, 0))])
        self.assertEqual(len(self.check(rows("0;0;0", "0;0;0", "0;0;0"))), 3)

    def test_planted_solutions(self):
        # With the solutions in the columns of F the system is F' F^-1.
        source = random.Random(150)
        for n in (1, 2, 2, 3, 3, 4, 5, 6):
            f = some_invertible(source, n)
            a = multiplied(slope(f), inverse_matrix(f))
            space = self.check(a)
            self.assertEqual(len(space), n)
            columns = [(column, ()) for column in zip(*f)]
            self.assertEqual(space, Space(columns, size=n))

    def test_components_that_are_not_coupled(self):
        source = random.Random(151)
        for n in (2, 3, 4, 6):
            f = [some_function(source) for _ in range(n)]
            f = [ONE if y.is_zero() else y for y in f]
            a = tuple(tuple(f[i].log_derivative() if i == j else ZERO for j in range(n)) for i in range(n))
            space = self.check(a)
            self.assertEqual(len(space), n)
            for i, y in enumerate(f):
                self.assertIn((tuple(y if i == j else ZERO for j in range(n)), ()), space)

    def test_mixed_solutions(self):
        # D + 1 below has no rational solution: only some of the columns are found.
        a = rows("1/x;0;0", "0;-1;0", "0;0;-2/x")
        self.assertEqual(self.check(a), Space([pair("x;0;0"), pair("0;0;1/x^2")], size=3))
        a = rows("0;1;0", "0;1;0", "x;0;0")
        self.assertEqual(self.check(a), Space([pair("1;0;1/2*x^2"), pair("0;0;1")], size=3))

    def test_right_sides(self):
        source = random.Random(152)
        for n in (1, 2, 2, 3, 3, 4):
            f = some_invertible(source, n)
            a = multiplied(slope(f), inverse_matrix(f))
            y = tuple(some_function(source) for _ in range(n))
            right = tuple(g - added([h * z for h, z in zip(row, y)]) for g, row in zip([z.derivative() for z in y], a))
            other = tuple(some_function(source) for _ in range(n))
            space = self.check(a, (other, right))
            self.assertIn((y, vector(0, 1)), space)
            self.assertEqual(space.homogeneous(), self.check(a))
            alone = self.check(a, (other,))
            self.assertEqual(alone.solution(vector(1)) is None, space.solution(vector(1, 0)) is None)

    def test_right_sides_without_solutions_of_the_system(self):
        a = rows("1;x", "0;1")
        right = functions_of("-1", "-1")
        space = self.check(a, (right, functions_of("1", "0"), functions_of("0", "0")))
        self.assertEqual(len(space.homogeneous()), 0)
        self.assertIn(pair("-1;0", (0, 1, 0)), space)
        self.assertIn(pair("0;0", (0, 0, 1)), space)
        self.assertIsNotNone(space.solution(vector(1, 0, 0)))
        space = self.check(rows("1;0", "0;1"), (functions_of("1/x", "0"), functions_of("-1/x", "1")))
        self.assertEqual(list(space), [pair("0;-1", (1, 1))])

    def test_only_the_rest_has_solutions(self):
        self.assertEqual(list(self.check(rows("1;0", "0;0"))), [pair("0;1")])
        self.assertEqual(list(self.check(rows("1;0", "0;0"), (functions_of("0", "1"),))), [pair("0;x", (1,)), pair("0;1", (0,))])
        self.assertEqual(list(self.check(rows("1;0;0", "0;1;0", "0;0;1/x"))), [pair("0;0;x")])

    def test_companions(self):
        source = random.Random(153)
        for _ in range(12):
            op = some_operator(source, source.randint(1, 3))
            if op.order() < 1:
                continue
            space = self.check(companion(op))
            found = rational_space(op)
            self.assertEqual(Space([((ys[0],), ()) for ys, _ in space]), found)
            self.assertEqual(len(space), len(found))
            for ys, _ in space:
                self.assertEqual(list(ys[1:]), [y.derivative() for y in ys[:-1]])

    def test_malformed(self):
        line = functions_of("1", "1")
        for a, rights in (((), ()), ((line,), ()), ((line, line[:1]), ()), ((line, line, line), ()), (unit(7), ()), (unit(2), (line[:1],)),
                          (unit(2), (line, line + line)), (unit(1), (line,)), (((),), ()), (unit(2), ((),)), ((), ((),))):
            for act in (system_space, first_equation):
                with self.assertRaises(Malformed):
                    act(a, rights)

    def test_sizes_at_their_bounds(self):
        self.assertEqual(len(self.check(unit(1))), 0)
        diagonal = tuple(tuple(function(f"{i}/x") if i == j else ZERO for j in range(6)) for i in range(6))
        space = self.check(diagonal)
        self.assertEqual((len(space), space.top_degree()), (6, 5))


class FirstEquation(unittest.TestCase):
    def test_examples(self):
        op, sides = first_equation(rows("0;1/x", "1/x;0"))
        self.assertEqual((op, sides), (operator("D^2 + 1/x*D - 1/x^2"), ()))
        self.assertEqual(first_equation(rows("0;0", "1;0")), (operator("D"), ()))
        self.assertEqual(first_equation(rows("x")), (operator("D - x"), ()))
        self.assertEqual(first_equation(rows("x"), (functions_of("3"),)), (operator("D - x"), functions_of("3")))
        self.assertEqual(first_equation(rows("0;1", "0;0"), (functions_of("x", "7"),)), (operator("D^2"), functions_of("8")))

    def test_word_by_word(self):
        # Without a relation below l the operator applied to the chain is zero, and the vectors are independent.
        source = random.Random(154)
        for n in (1, 2, 3, 3, 4):
            a = some_matrix(source, n)
            rights = tuple(tuple(some_function(source) for _ in range(n)) for _ in range(2))
            op, sides = first_equation(a, rights)
            self.assertIs(type(sides), tuple)
            self.assertEqual(op.leading(), ONE)
            order = op.order()
            self.assertTrue(1 <= order <= n)
            chain, w = [unit(n)[0]], [[ZERO] for _ in rights]
            for _ in range(order):
                v = chain[-1]
                for line, right in zip(w, rights):
                    line.append(line[-1].derivative() + added([f * g for f, g in zip(v, right)]))
                moved = multiplied((v,), a)[0]
                chain.append(tuple(f.derivative() + g for f, g in zip(v, moved)))
            for k in range(n):
                self.assertTrue(added([op[i] * chain[i][k] for i in range(order + 1)]).is_zero())
            self.assertEqual(sides, tuple(added([op[i] * line[i] for i in range(order + 1)]) for line in w))
            rest = [tuple(v) for v in chain[:order]] + list(unit(n))
            self.assertTrue(any(inverse_matrix(rest[:order] + [rest[order + k] for k in kept]) is not None
                                for kept in subsets(n, n - order)))

    def test_equations_of_companions(self):
        source = random.Random(155)
        for _ in range(10):
            op = some_operator(source, 3)
            if op.order() < 1:
                continue
            right = some_function(source)
            last = tuple([ZERO] * (op.order() - 1) + [right])
            self.assertEqual(first_equation(companion(op), (last,)), (op.monic(), (right,)))


def subsets(n, count):
    if count == 0:
        return [()]
    return [found + (k,) for k in range(n) for found in subsets(k, count - 1)]


class Companion(unittest.TestCase):
    def test_examples(self):
        self.assertEqual(companion(operator("x*D^2 - D + 3")), rows("0;1", "-3/x;1/x"))
        self.assertEqual(companion(operator("2*D - x")), rows("1/2*x"))
        self.assertEqual(companion(derivation().power(3)), rows("0;1;0", "0;0;1", "0;0;0"))
        self.assertEqual(len(companion(derivation().power(6))), 6)

    def test_refused(self):
        for op in (Operator(()), of_function(ONE), operator("x"), derivation().power(7)):
            with self.assertRaises(Refused) as held:
                companion(op)
            self.assertEqual(held.exception.reason, "order")


class Inverse(unittest.TestCase):
    def test_random_matrices(self):
        source = random.Random(156)
        for n in (1, 2, 3, 4, 5):
            a = some_invertible(source, n)
            found = inverse_matrix(a)
            self.assertEqual((multiplied(a, found), multiplied(found, a)), (unit(n), unit(n)))
            self.assertEqual(inverse_matrix(found), a)
            self.assertTrue(type(found) is tuple and all(type(row) is tuple for row in found))

    def test_singular_matrices(self):
        source = random.Random(157)
        for n in (2, 3, 4):
            a = some_matrix(source, n)[:-1]
            f, g = some_function(source), some_function(source)
            last = tuple(f * h + g * k for h, k in zip(a[0], a[-1]))
            self.assertIsNone(inverse_matrix(a + (last,)))
        self.assertIsNone(inverse_matrix(rows("0")))
        self.assertIsNone(inverse_matrix(rows("x;x^2", "1;x")))

    def test_examples(self):
        self.assertEqual(inverse_matrix(()), ())
        self.assertEqual(inverse_matrix(rows("x")), rows("1/x"))
        self.assertEqual(inverse_matrix(rows("0;1", "x;0")), rows("0;1/x", "1;0"))
        self.assertEqual(inverse_matrix(rows("1;x", "0;1")), rows("1;-x", "0;1"))
        self.assertEqual(inverse_matrix(unit(7)), unit(7))


class Values(unittest.TestCase):
    def test_arguments_stay(self):
        a, right = rows("0;1/x", "1/x;0"), functions_of("x", "1")
        before = (a, right)
        system_space(a, (right,))
        first_equation(a, (right,))
        inverse_matrix(a)
        self.assertEqual((a, right), before)

    def test_the_form_of_the_basis(self):
        space = system_space(rows("0;0", "1;0"), (functions_of("1", "0"),))
        self.assertEqual(list(space), [pair("x;1/2*x^2", (1,)), pair("1;x", (0,)), pair("0;1", (0,))])
        self.assertEqual(space.solution(vector(Fraction(1, 2))), functions_of("1/2*x", "1/4*x^2"))
        self.assertEqual(space.solution((Ratio(0),)), functions_of("0", "0"))


if __name__ == "__main__":
    unittest.main()
