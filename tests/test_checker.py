import random
import unittest
from unittest import mock

import source as sources
from helpers import X, fun, functions_of, operator, others, poly, ratio, vector
from test_papers import some_equations
from indicial import spaces
from indicial.checker import takes
from indicial.clear import cleared
from indicial.divisor import common_divisor, multiplicity, squarefree_part
from indicial.errors import Malformed
from indicial.linear import Matrix, combine
from indicial.local import degree_bound, least_order
from indicial.operator import of_function
from indicial.papers import make_paper
from indicial.poly import Poly, constant, product
from indicial.products import PowerProduct
from indicial.ratfun import added, of_poly, of_ratio
from indicial.ratio import Ratio
from indicial.spaces import Space, equations


def holds(operator, rights, space, paper):
    """Point 11.2 word by word, for a space and a paper of the right kinds."""
    word, factors, degree, columns, multipliers = paper
    a, g = cleared(operator, rights)
    m = len(rights)
    if word != "rational" or (space.size, space.sides) != (1, m):
        return False
    for (y,), cs in space:
        if operator(y) != added([of_ratio(c) * right for c, right in zip(cs, rights)]):
            return False
    for at, (p, k) in enumerate(factors):
        if p.degree() < 1 or p != p.monic() or squarefree_part(p) != p or k < 0:
            return False
        if any(common_divisor(p, q).degree() > 0 for q, _ in factors[:at]):
            return False
        for h in a + g:
            if not h.is_zero() and of_poly(h).order_at(p) is None:
                return False
    if not squarefree_part(a[-1]).divides(product([p for p, _ in factors])):
        return False
    for p, k in factors:
        low = min([multiplicity(p, h) for h in g if not h.is_zero()], default=None)
        least = least_order(a, p, low)
        if least is not None and least < -k:
            return False
    d = product([p.power(k) for p, k in factors])
    b, h = cleared(operator * of_function(of_poly(d).inverse()), rights)
    if degree < degree_bound(b, max([p.degree() for p in h if not p.is_zero()], default=None)):
        return False
    matrix = equations(b, h, degree)
    width = degree + 1 + m
    if matrix.width != width or list(columns) != sorted(set(columns)) or any(not 0 <= c < width for c in columns):
        return False
    if len(multipliers) != len(columns) or any(len(row) != len(matrix) for row in multipliers):
        return False
    for i, row in enumerate(multipliers):
        combined = combine(matrix.rows, width, row)
        if [combined[c] for c in columns] != [ratio(int(j == i)) for j in range(len(columns))]:
            return False
    return len(space) == width - len(columns)


def with_greater(op, rights, factors, more):
    """A paper with these factors and a degree greater than necessary by `more`, and the multipliers that it asks for."""
    d = product([p.power(k) for p, k in factors])
    b, h = cleared(op * of_function(of_poly(d).inverse()), rights)
    degree = degree_bound(b, max([p.degree() for p in h if not p.is_zero()], default=None)) + more
    matrix = equations(b, h, degree)
    columns = matrix.reduced()[1]
    chosen = Matrix([[row[k] for row in matrix] for k in columns], len(matrix))
    return ("rational", tuple(factors), degree, columns, chosen.duals())


class Accepting(unittest.TestCase):
    def test_papers_that_are_made(self):
        for op, rights in some_equations(220, 20):
            space, paper = make_paper(op, rights)
            self.assertIs(takes(op, rights, space, paper), True)
            self.assertTrue(holds(op, rights, space, paper))

    def test_greater_powers_and_a_greater_degree(self):
        source = random.Random(221)
        for op, rights in some_equations(222, 10):
            space, (_, factors, _, _, _) = make_paper(op, rights)
            greater = [(p, k + source.randint(0, 2)) for p, k in factors]
            extra = poly(source.randint(3, 5), 0, 0, 1)
            if all(of_poly(h).order_at(extra) == 0 for part in cleared(op, rights) for h in part if not h.is_zero()):
                greater.insert(source.randint(0, len(greater)), (extra, source.randint(0, 1)))
            paper = with_greater(op, rights, greater, source.randint(0, 2))
            self.assertTrue(holds(op, rights, space, paper))
            self.assertIs(takes(op, rights, space, paper), True)

    def test_factors_that_are_split(self):
        op = operator("(x^2 - 1)*D + 2*x")
        space, paper = make_paper(op)
        self.assertEqual(paper[1], ((poly(-1, 0, 1), 1),))
        split = with_greater(op, (), [(poly(-1, 1), 1), (poly(1, 1), 1)], 0)
        self.assertIs(takes(op, (), space, split), True)
        self.assertIs(takes(op, (), space, with_greater(op, (), [(poly(-1, 1), 1)], 0)), False)

    def test_other_columns_and_multipliers(self):
        # Any columns whose independence is shown are as good as the pivots.
        op = operator("D - 1/x + 1/(x*(x - 1))")
        space = make_paper(op)[0]
        a = with_greater(op, (), make_paper(op)[1][1], 1)
        matrix = equations(*cleared(op, ()), a[2])
        for columns in ((0, 1), (0, 2), (1, 2)):
            chosen = Matrix([[row[k] for row in matrix] for k in columns], len(matrix)).duals()
            if chosen is not None:
                paper = ("rational", a[1], a[2], columns, chosen)
                self.assertEqual(takes(op, (), space, paper), holds(op, (), space, paper))

    def test_examples(self):
        op = operator("D - 1/x")
        space = Space([(functions_of("x"), ())])
        paper = ("rational", ((X, 0),), 1, (0,), (vector(-1),))
        self.assertIs(takes(op, (), space, paper), True)
        self.assertIs(takes(op, (), Space(()), paper), False)
        self.assertIs(takes(op, (), Space([(functions_of("1"), ())]), paper), False)
        self.assertIs(takes(op, (), Space([(functions_of("x"), ()), (functions_of("1"), ())]), paper), False)

    def test_empty_parts(self):
        paper = ("rational", (), -1, (), ())
        self.assertIs(takes(operator("D - 1"), (), Space(()), paper), True)
        self.assertIs(takes(operator("D"), (), Space(()), paper), False)
        self.assertIs(takes(operator("D - x"), functions_of("0"), Space([(functions_of("0"), vector(1))], sides=1), paper), True)
        self.assertIs(takes(operator("x*D - 1/2"), (), Space(()), paper), False)
        self.assertIs(takes(operator("x*D - 1/2"), (), Space(()), ("rational", ((X, 0),), -1, (), ())), True)

    def test_other_equations(self):
        cases = some_equations(223, 0)
        for op, rights in cases:
            space, paper = make_paper(op, rights)
            for other, sides in cases:
                expected = space.sides == len(sides) and holds(other, sides, space, paper)
                self.assertIs(takes(other, sides, space, paper), expected)


class Refusing(unittest.TestCase):
    def spoilt(self, paper):
        """Papers that differ from one in one place."""
        word, factors, degree, columns, multipliers = paper
        for at, (p, k) in enumerate(factors):
            for pair in ((p, k - 1), (p, k + 1), (p, -1), (p.scaled(Ratio(2)), k), (p * p, k), (constant(Ratio(1)), k), (Poly(()), k), (p * poly(7, 1), k)):
                yield word, factors[:at] + (pair,) + factors[at + 1:], degree, columns, multipliers
            yield word, factors[:at] + factors[at + 1:], degree, columns, multipliers
            yield word, factors + ((p, k),), degree, columns, multipliers
            yield word, factors + ((p, 0),), degree, columns, multipliers
        yield word, factors + ((poly(1, 0, 1), 0),), degree, columns, multipliers
        yield word, factors + ((poly(0, 1, 1), 0),), degree, columns, multipliers
        for other in (degree - 1, degree + 1, -2):
            yield word, factors, other, columns, multipliers
        for at, column in enumerate(columns):
            yield word, factors, degree, columns[:at] + columns[at + 1:], multipliers[:at] + multipliers[at + 1:]
            yield word, factors, degree, columns[:at] + columns[at + 1:], multipliers
            for other in (column + 1, column - 1, -1, degree + 1 + 9):
                yield word, factors, degree, columns[:at] + (other,) + columns[at + 1:], multipliers
        yield word, factors, degree, columns[::-1], multipliers[::-1]
        yield word, factors, degree, columns + columns[-1:], multipliers + multipliers[-1:]
        for at, row in enumerate(multipliers):
            others = [row[:k] + (row[k] + Ratio(1),) + row[k + 1:] for k in range(len(row))]
            for other in others + [row[:-1], row + (Ratio(0),), ()]:
                yield word, factors, degree, columns, multipliers[:at] + (other,) + multipliers[at + 1:]
        yield word, factors, degree, columns, multipliers + (vector(1),)

    def test_papers_changed_in_one_place(self):
        refused = 0
        source = random.Random(229)
        for op, rights in some_equations(224, 6):
            space, paper = make_paper(op, rights)
            papers = list(self.spoilt(paper))
            for other in source.sample(papers, min(len(papers), 80)):
                try:
                    expected = holds(op, rights, space, other)
                except (Malformed, IndexError):
                    expected = False
                self.assertIs(takes(op, rights, space, other), expected, other)
                refused += not expected
        self.assertTrue(refused > 500)

    def test_other_spaces(self):
        for op, rights in some_equations(225, 10):
            space, paper = make_paper(op, rights)
            m = len(rights)
            zeros = ((functions_of("0"), vector(*[0] * m)),)
            pairs = list(space)
            found = [pairs[:at] + pairs[at + 1:] for at in range(len(pairs))]
            found += [pairs + [((fun((3, 1, 4)),), vector(*[0] * m))], [((fun((3, 1, 4)),), cs) for _, cs in pairs]]
            for other in found:
                other = Space(other, sides=m)
                self.assertIs(takes(op, rights, other, paper), other == space)
            self.assertIs(takes(op, rights, Space(zeros, sides=m), paper), len(space) == 0)
            self.assertIs(takes(op, rights, Space((), sides=m + 1), paper), False)
            self.assertIs(takes(op, rights, Space((), size=2, sides=m), paper), False)

    def test_every_value_of_a_space(self):
        op = operator("D - 1")
        paper = make_paper(op)[1]
        for value in others() + [paper, list(Space(())), Space, PowerProduct(()), ((),), Matrix((), 0)]:
            self.assertIs(takes(op, (), value, paper), False)

    def test_every_value_of_a_paper(self):
        op = operator("x*D - 1")
        space, paper = make_paper(op)
        values = others() + ["rational", ("rational",), list(paper), paper + (0,), paper[:4], space]
        for value in values:
            self.assertIs(takes(op, (), space, value), False)
        for at in range(5):
            for value in others() + ["rational ", "Rational", ["rational"], list(paper[1]), list(paper[3]), list(paper[4]),
                                     (list(paper[1][0]),), (paper[1][0] + (0,),), ((X,),), ((X, True),), ((X, None),), ((X, Ratio(0)),),
                                     ((of_poly(X), 0),), (None,), ("0",), (False,), (Ratio(0),), (list(paper[4][0]),), ((-1,),), (True,)]:
                other = paper[:at] + (value,) + paper[at + 1:]
                if value == paper[at] and type(value) is type(paper[at]) and repr(value) == repr(paper[at]):
                    continue
                self.assertIs(takes(op, (), space, other), False, (at, value))

    def test_true_and_false_are_no_integers(self):
        op = operator("x*D - 1")
        space, (word, factors, degree, columns, multipliers) = make_paper(op)
        self.assertEqual((factors, degree, columns), (((X, 0),), 1, (0,)))
        self.assertIs(takes(op, (), space, (word, factors, degree, columns, multipliers)), True)
        self.assertIs(takes(op, (), space, (word, ((X, False),), degree, columns, multipliers)), False)
        self.assertIs(takes(op, (), space, (word, factors, True, columns, multipliers)), False)
        self.assertIs(takes(op, (), space, (word, factors, degree, (False,), multipliers)), False)

    def test_each_condition_by_itself(self):
        # Only one condition fails in each of these.
        op = operator("x*D + 2")
        space, (word, factors, degree, columns, multipliers) = make_paper(op)
        self.assertEqual((factors, degree, columns, multipliers), (((X, 2),), 0, (), ()))
        # 3: the power of x bounds no pole.
        for k in (0, 1):
            self.assertIs(takes(op, (), Space(()), with_greater(op, (), [(X, k)], 0)), False)
        self.assertIs(takes(op, (), space, with_greater(op, (), [(X, 3)], 0)), True)
        # 4: the degree.
        self.assertIs(takes(op, (), Space(()), (word, factors, -1, (), ())), False)
        # 1: no solution.
        self.assertIs(takes(op, (), Space([(functions_of("x"), ())]), (word, factors, degree, columns, multipliers)), False)
        # 2: a zero of the last coefficient is missing; it is not balanced for a right side.
        op = operator("2*x*D + 1")
        self.assertIs(takes(op, (), Space(()), (word, (), -1, (), ())), False)
        self.assertIs(takes(op, (), Space(()), (word, ((X, 0),), -1, (), ())), True)
        rights = functions_of("x^2/(x - 1)")
        op = operator("(x^2 - x)*D - x + 1/2")
        paper = with_greater(op, rights, [(poly(0, -1, 1), 2)], 0)
        self.assertIs(takes(op, rights, make_paper(op, rights)[0], paper), False)

    def test_the_least_order_and_the_greatest_degree_of_right_sides_count(self):
        op, rights = operator("D"), functions_of("1/x", "1/x^3")
        space = make_paper(op, rights)[0]
        self.assertEqual([cs for _, cs in space], [vector(0, 1), vector(0, 0)])
        part = Space([(functions_of("1"), vector(0, 0))], sides=2)
        self.assertIs(takes(op, rights, part, with_greater(op, rights, [(X, 0)], 0)), False)
        self.assertIs(takes(op, rights, space, with_greater(op, rights, [(X, 2)], 0)), True)
        for rights in (functions_of("x", "x^3"), functions_of("x^3", "x")):
            b, h = cleared(op, rights)
            matrix = equations(b, h, 2)
            columns = matrix.reduced()[1]
            multipliers = Matrix([[row[k] for row in matrix] for k in columns], len(matrix)).duals()
            kernel = [((of_poly(Poly(row[:3])),), row[3:]) for row in matrix.kernel()]
            self.assertIs(takes(op, rights, Space(kernel, sides=2), ("rational", (), 2, columns, multipliers)), False)
            self.assertIs(takes(op, rights, make_paper(op, rights)[0], with_greater(op, rights, [], 0)), True)

    def test_negative_powers(self):
        # All solutions have a zero at 0, but no power in a paper is below 0.
        space = Space([(functions_of("x^2"), ())])
        self.assertIs(takes(operator("x*D - 2"), (), space, ("rational", ((X, -1),), 1, (0,), (vector(-1),))), False)
        self.assertIs(takes(operator("x*D - 2"), (), space, make_paper(operator("x*D - 2"))[1]), True)

    def test_great_numbers(self):
        # No time is spent on a degree or powers that nothing else in the paper explains.
        great = 10 ** 40
        op = operator("D - 1")
        self.assertIs(takes(op, (), Space(()), ("rational", ((X, great), (poly(1, 0, 1), great)), -1, (), ())), True)
        self.assertIs(takes(op, functions_of("0"), Space([(functions_of("0"), vector(1))], sides=1),
                            ("rational", ((X, great),), -1, (), ())), True)
        self.assertIs(takes(op, (), Space(()), ("rational", ((X, 0),), great, (), ())), False)
        self.assertIs(takes(op, (), Space(()), ("rational", ((X, 0),), 0, (great,), (vector(1),))), False)
        self.assertIs(takes(op, functions_of("x"), Space([(functions_of("-x - 1"), vector(1))], sides=1),
                            ("rational", ((X, great),), 1, (0, 1), (vector(1, 0), vector(0, 1)))), False)
        self.assertIs(takes(operator("D"), (), Space([(functions_of("1"), ())]), ("rational", ((X, great),), great, (), ())), False)


class NoSearch(unittest.TestCase):
    def test_nothing_that_searches_is_called(self):
        cases = [(op, rights) + make_paper(op, rights) for op, rights in some_equations(226, 8)]

        def refuse(*arguments, **named):
            raise AssertionError("a search")

        with mock.patch.object(Matrix, "kernel", refuse), mock.patch.object(Matrix, "reduced", refuse), \
                mock.patch.object(Matrix, "solve", refuse), mock.patch.object(spaces, "rational_space", refuse), \
                mock.patch.object(spaces, "polynomial_space", refuse), mock.patch.object(spaces, "solving_vectors", refuse), \
                mock.patch.object(spaces, "space_over", refuse), mock.patch.object(spaces, "kernel_of", refuse):
            for op, rights, space, paper in cases:
                self.assertIs(takes(op, rights, space, paper), True)

    def test_the_module_imports_nothing_that_searches(self):
        imported = {name for _, name in sources.imports(sources.tree_of("checker.py"))}
        self.assertEqual(imported & {"make_paper", "rational_space", "polynomial_space", "Matrix", "kernel_of", "solving_vectors"}, set())


class Completeness(unittest.TestCase):
    def test_accepted_spaces_contain_all_solutions(self):
        # Whatever paper is accepted, the space is the one of all solutions.
        source = random.Random(227)
        for op, rights in some_equations(228, 10):
            whole, paper = make_paper(op, rights)
            pairs = list(whole)
            for _ in range(4):
                part = [pair for pair in pairs if source.randint(0, 1)]
                space = Space(part, sides=len(rights))
                for other in (paper, with_greater(op, rights, paper[1], 1)):
                    self.assertIs(takes(op, rights, space, other), space == whole)


if __name__ == "__main__":
    unittest.main()
