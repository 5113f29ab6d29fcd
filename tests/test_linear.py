import random
import unittest
from fractions import Fraction

from helpers import fraction, others, ratio, vector
from indicial.linear import Matrix, combine, dot, is_vector, shows_independent
from indicial.ratio import Ratio


def matrix(rows, width=None):
    rows = [vector(*row) for row in rows]
    return Matrix(rows, len(rows[0]) if width is None else width)


def plain(rows):
    return [[fraction(item) for item in row] for row in rows]


def some_matrix(source, count, width):
    """A matrix with small items, whose rows are often dependent."""
    rows = [[Fraction(source.randint(-3, 3), source.randint(1, 3)) for _ in range(width)]
            for _ in range(count)]
    for at in range(count):
        if at > 0 and source.random() < 0.3:
            other = source.randrange(at)
            rows[at] = [item * source.randint(-1, 2) for item in rows[other]]
        if source.random() < 0.1:
            rows[at] = [Fraction(0)] * width
    return matrix(rows, width)


def all_shapes():
    source = random.Random(3)
    for count in range(6):
        for width in range(6):
            for _ in range(6):
                yield some_matrix(source, count, width), source


def is_reduced(rows, pivots):
    """Point 2.2, word by word."""
    if len(rows) != len(pivots) or list(pivots) != sorted(set(pivots)):
        return False
    for row, pivot in zip(rows, pivots):
        if any(row[:pivot]) or row[pivot] != 1:
            return False
        if [other[pivot] for other in rows].count(0) != len(rows) - 1:
            return False
    return True


class Vectors(unittest.TestCase):
    def test_dot(self):
        self.assertEqual(dot((), ()), Ratio(0))
        self.assertEqual(dot(vector(1, 2), vector(3, Fraction(1, 2))), Ratio(4))
        self.assertEqual(dot(vector(1, -1), vector(5, 5)), Ratio(0))
        self.assertIsInstance(dot((), ()), Ratio)

    def test_combine(self):
        rows = (vector(1, 2, 3), vector(0, 1, Fraction(1, 2)))
        self.assertEqual(combine(rows, 3, vector(2, -4)), vector(2, 0, 4))
        self.assertEqual(combine(rows, 3, vector(0, 0)), vector(0, 0, 0))
        self.assertEqual(combine((), 2, ()), vector(0, 0))
        self.assertEqual(combine((), 0, ()), ())
        self.assertEqual(combine(((), ()), 0, vector(1, 2)), ())

    def test_is_vector(self):
        self.assertIs(is_vector((), 0), True)
        self.assertIs(is_vector(vector(1, 2), 2), True)
        for value, length in (((), 1), (vector(1), 0), (vector(1, 2), 3), ([Ratio(1)], 1), ((1,), 1),
                              ((Ratio(1), 1), 2), ((True,), 1), ((None,), 1), (Ratio(1), 1), ("1", 1)):
            self.assertIs(is_vector(value, length), False)
        for value in others():
            for length in range(3):
                right = isinstance(value, tuple) and len(value) == length
                right = right and all(isinstance(item, Ratio) for item in value)
                self.assertIs(is_vector(value, length), right)


class Shape(unittest.TestCase):
    def test_fields_are_tuples(self):
        rows = [[Ratio(1), Ratio(2)], (Ratio(3), Ratio(4))]
        found = Matrix(rows, 2)
        self.assertEqual(found.rows, (vector(1, 2), vector(3, 4)))
        self.assertIs(type(found.rows), tuple)
        self.assertTrue(all(type(row) is tuple for row in found.rows))
        self.assertEqual(found.width, 2)
        rows.append([Ratio(5), Ratio(6)])
        rows[0].append(Ratio(9))
        self.assertEqual(found.rows, (vector(1, 2), vector(3, 4)))

    def test_len_and_iteration(self):
        found = matrix([(1, 2), (3, 4), (5, 6)])
        self.assertEqual(len(found), 3)
        self.assertEqual(list(found), [vector(1, 2), vector(3, 4), vector(5, 6)])
        self.assertEqual((len(Matrix((), 4)), list(Matrix((), 4))), (0, []))
        self.assertEqual(len(Matrix(((), ()), 0)), 2)

    def test_equality(self):
        self.assertTrue(matrix([(1, 2)]) == Matrix([[Ratio(2, 2), Ratio(4, 2)]], 2))
        self.assertFalse(matrix([(1, 2)]) == matrix([(1, 3)]))
        self.assertFalse(matrix([(1, 2)]) == matrix([(1, 2), (1, 2)]))
        self.assertFalse(Matrix((), 1) == Matrix((), 2))
        self.assertTrue(Matrix((), 2) == Matrix([], 2))
        for value in others() + [(vector(1, 2),)]:
            self.assertIs(matrix([(1, 2)]) == value, False)
            self.assertIs(Matrix((), 0) == value, False)

    def test_transposed(self):
        self.assertEqual(matrix([(1, 2, 3), (4, 5, 6)]).transposed(), matrix([(1, 4), (2, 5), (3, 6)]))
        self.assertEqual(Matrix((), 2).transposed(), Matrix(((), ()), 0))
        self.assertEqual(Matrix(((), ()), 0).transposed(), Matrix((), 2))
        self.assertEqual(Matrix((), 0).transposed(), Matrix((), 0))

    def test_times(self):
        self.assertEqual(matrix([(1, 2), (3, 4)]).times(vector(1, -1)), vector(-1, -1))
        self.assertEqual(Matrix((), 2).times(vector(1, 1)), ())
        self.assertEqual(Matrix(((), ()), 0).times(()), vector(0, 0))


class Reduction(unittest.TestCase):
    def test_example(self):
        reduced, pivots = matrix([(0, 2, 4, 1), (0, 1, 2, 0), (0, 0, 0, 0), (0, 3, 6, 1)]).reduced()
        self.assertEqual(reduced, matrix([(0, 1, 2, 0), (0, 0, 0, 1)]))
        self.assertEqual(pivots, (1, 3))

    def test_edges(self):
        self.assertEqual(Matrix((), 3).reduced(), (Matrix((), 3), ()))
        self.assertEqual(Matrix((), 0).reduced(), (Matrix((), 0), ()))
        self.assertEqual(Matrix(((), ()), 0).reduced(), (Matrix((), 0), ()))
        self.assertEqual(matrix([(0, 0), (0, 0)]).reduced(), (Matrix((), 2), ()))

    def test_form_and_span(self):
        for found, _ in all_shapes():
            before = found.rows
            reduced, pivots = found.reduced()
            self.assertEqual(found.rows, before)
            self.assertIs(type(pivots), tuple)
            self.assertEqual(reduced.width, found.width)
            self.assertTrue(is_reduced(plain(reduced), pivots))
            self.assertEqual(found.rank(), len(reduced))
            for row in found:
                weights = [row[pivot] for pivot in pivots]
                self.assertEqual(combine(reduced.rows, found.width, weights), row)
            for row in reduced:
                self.assertEqual(found.transposed().solve(row)[0], "solution")

    def test_same_span_same_form(self):
        rows = [vector(1, 2, 3), vector(2, 4, 7), vector(0, 0, 1)]
        mixed = [rows[2], combine(rows, 3, vector(1, -1, Fraction(1, 3))), rows[1], rows[0]]
        self.assertEqual(Matrix(rows, 3).reduced(), Matrix(mixed, 3).reduced())

    def test_rank(self):
        self.assertEqual(matrix([(1, 2), (2, 4)]).rank(), 1)
        self.assertEqual(matrix([(1, 2), (2, 5)]).rank(), 2)
        self.assertEqual(matrix([(0, 0)]).rank(), 0)
        self.assertEqual(Matrix((), 5).rank(), 0)

    def test_large_numbers(self):
        big = 10 ** 120
        found = matrix([(big, Fraction(1, big)), (1, big)])
        self.assertEqual(found.reduced(), (matrix([(1, 0), (0, 1)]), (0, 1)))
        self.assertEqual(found.solve(vector(big, 1)), ("solution", vector(1, 0)))


class Kernel(unittest.TestCase):
    def test_example(self):
        self.assertEqual(matrix([(1, 2, 0, 3), (0, 0, 1, 4)]).kernel(), (vector(-2, 1, 0, 0), vector(-3, 0, -4, 1)))

    def test_edges(self):
        self.assertEqual(Matrix((), 2).kernel(), (vector(1, 0), vector(0, 1)))
        self.assertEqual(Matrix((), 0).kernel(), ())
        self.assertEqual(Matrix(((),), 0).kernel(), ())
        self.assertEqual(matrix([(1, 0), (0, 1)]).kernel(), ())
        self.assertEqual(matrix([(0, 0)]).kernel(), (vector(1, 0), vector(0, 1)))

    def test_properties(self):
        for found, _ in all_shapes():
            pivots = found.reduced()[1]
            free = [column for column in range(found.width) if column not in pivots]
            kernel = found.kernel()
            self.assertIs(type(kernel), tuple)
            self.assertEqual(len(kernel), len(free))
            for column, x in zip(free, kernel):
                self.assertTrue(is_vector(x, found.width))
                self.assertTrue(all(item.is_zero() for item in found.times(x)))
                for other in free:
                    self.assertEqual(x[other], Ratio(1 if other == column else 0))


class Solve(unittest.TestCase):
    def test_examples(self):
        found = matrix([(1, 2), (2, 4)])
        self.assertEqual(found.solve(vector(3, 6)), ("solution", vector(3, 0)))
        word, y = found.solve(vector(3, 7))
        self.assertEqual(word, "none")
        self.assertTrue(found.shows_none(vector(3, 7), y))

    def test_edges(self):
        self.assertEqual(Matrix((), 2).solve(()), ("solution", vector(0, 0)))
        self.assertEqual(Matrix((), 0).solve(()), ("solution", ()))
        self.assertEqual(Matrix(((), ()), 0).solve(vector(0, 0)), ("solution", ()))
        word, y = Matrix(((), ()), 0).solve(vector(0, 5))
        self.assertEqual((word, dot(y, vector(0, 5))), ("none", Ratio(1)))
        self.assertEqual(matrix([(0, 0)]).solve(vector(0)), ("solution", vector(0, 0)))
        self.assertEqual(matrix([(0, 0)]).solve(vector(2)), ("none", vector(Fraction(1, 2))))

    def test_both_outcomes(self):
        seen = {"solution": 0, "none": 0}
        for found, source in all_shapes():
            if source.random() < 0.5:
                right = found.times([ratio(source.randint(-3, 3)) for _ in range(found.width)])
            else:
                right = tuple(ratio(source.randint(-3, 3)) for _ in range(len(found)))
            word, x = found.solve(right)
            seen[word] += 1
            if word == "solution":
                self.assertTrue(is_vector(x, found.width))
                self.assertEqual(found.times(x), right)
                pivots = found.reduced()[1]
                free = [column for column in range(found.width) if column not in pivots]
                self.assertTrue(all(x[column].is_zero() for column in free))
            else:
                self.assertTrue(found.shows_none(right, x))
                self.assertTrue(all(item.is_zero() for item in combine(found.rows, found.width, x)))
                self.assertEqual(dot(x, right), Ratio(1))
        self.assertTrue(min(seen.values()) > 20)

    def test_right_as_it_was(self):
        right = [Ratio(3), Ratio(7)]
        matrix([(1, 2), (2, 4)]).solve(right)
        self.assertEqual(right, [Ratio(3), Ratio(7)])

    def test_shows_none(self):
        found = matrix([(1, 2), (2, 4), (0, 0)])
        right = vector(3, 7, 0)
        y = vector(-2, 1, 0)
        self.assertIs(found.shows_none(right, y), True)
        self.assertIs(found.shows_none(right, vector(-2, 1, 5)), True)
        for wrong in (vector(-4, 2, 0), vector(-2, 1), vector(-2, 1, 0, 0), list(y), vector(0, 0, 0),
                      vector(-2, Fraction(1, 2), 0), vector(Fraction(1, 3), 0, 0), (-2, 1, 0), (y,), [y],
                      y[:2] + (None,), y[:2] + (0,), y[:2] + (False,), "none", 5):
            self.assertIs(found.shows_none(right, wrong), False)
        for value in others():
            self.assertIs(found.shows_none(right, value), False)
        self.assertIs(found.shows_none(vector(3, 6, 0), y), False)

    def test_shows_none_without_rows(self):
        for value in others():
            self.assertIs(Matrix((), 2).shows_none((), value), False)
        self.assertIs(Matrix(((),), 0).shows_none(vector(4), vector(Fraction(1, 4))), True)
        self.assertIs(Matrix(((),), 0).shows_none(vector(4), vector(1)), False)


class Independence(unittest.TestCase):
    def test_duals_or_dependence(self):
        seen = [0, 0]
        for found, _ in all_shapes():
            duals = found.duals()
            weights = found.dependence()
            independent = found.rank() == len(found)
            seen[independent] += 1
            self.assertEqual(duals is not None, independent)
            self.assertEqual(weights is None, independent)
            if independent:
                self.assertIs(shows_independent(found.rows, found.width, duals), True)
                for i, dual in enumerate(duals):
                    self.assertTrue(is_vector(dual, found.width))
                    for j, row in enumerate(found):
                        self.assertEqual(dot(dual, row), Ratio(1 if i == j else 0))
                self.assertEqual(len(duals), len(found))
            else:
                self.assertTrue(is_vector(weights, len(found)))
                self.assertFalse(all(item.is_zero() for item in weights))
                self.assertTrue(all(item.is_zero() for item in combine(found.rows, found.width, weights)))
        self.assertTrue(min(seen) > 20)

    def test_edges(self):
        self.assertEqual((Matrix((), 3).duals(), Matrix((), 3).dependence()), ((), None))
        self.assertEqual((Matrix((), 0).duals(), Matrix((), 0).dependence()), ((), None))
        self.assertIsNone(Matrix(((),), 0).duals())
        self.assertTrue(is_vector(Matrix(((),), 0).dependence(), 1))
        self.assertIsNone(matrix([(0, 0)]).duals())

    def test_shows_independent(self):
        rows = (vector(1, 1, 0), vector(0, 2, 1))
        duals = (vector(1, 0, 0), vector(0, 0, 1))
        self.assertIs(shows_independent(rows, 3, duals), True)
        for wrong in (duals[::-1], list(duals), (list(duals[0]), duals[1]), duals + (vector(0, 0, 0),),
                      duals[:1], (duals[0], vector(0, 1, 0)), (duals[0], vector(0, 0, 2)),
                      (vector(1, 0, 0, 0), vector(0, 0, 1, 0)), (vector(1, 0), vector(0, 0)),
                      ((1, 0, 0), (0, 0, 1)), (duals[0], None), (duals[0], duals[1][:2] + (1,)),
                      Matrix(duals, 3), None, True, 7, "duals", (), ((), ()), Ratio(1)):
            self.assertIs(shows_independent(rows, 3, wrong), False)
        for value in others():
            self.assertIs(shows_independent(rows, 3, value), False)

    def test_shows_independent_without_rows(self):
        self.assertIs(shows_independent((), 3, ()), True)
        for value in others():
            self.assertIs(shows_independent((), 3, value), isinstance(value, tuple) and len(value) == 0)
        self.assertIs(shows_independent(((),), 0, ((),)), False)

    def test_dependent_rows_have_no_duals(self):
        rows = (vector(1, 2), vector(2, 4))
        for a in range(-2, 3):
            for b in range(-2, 3):
                self.assertIs(shows_independent(rows, 2, (vector(a, b), vector(b, a))), False)


if __name__ == "__main__":
    unittest.main()
