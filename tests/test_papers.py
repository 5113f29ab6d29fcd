import random
import unittest

from helpers import X, function, functions_of, operator, poly, some_function, some_operator, vector
from indicial.checker import takes
from indicial.clear import cleared
from indicial.errors import Refused
from indicial.linear import Matrix
from indicial.local import degree_bound
from indicial.operator import Operator, of_function
from indicial.papers import make_paper
from indicial.ratfun import of_poly
from indicial.ratio import Ratio
from indicial.spaces import Space, denominator_bound, equations, rational_space

SOME = (
    ("D - 1/x", ()), ("D - 1", ()), ("x*D + 2", ()), ("D", ("1/x", "1/x^2")), ("D", ()), ("x", ()), ("x", ("1", "x")),
    ("2", ("0",)), ("D", ("0",)), ("x*D + 2", ("0", "1/x")), ("x^2*D^2 + x*D - 1", ()), ("(x^2 - 2)*D + 6*x", ("x/(x^2 - 2)",)),
    ("D^2", ("x", "1", "1/x^3")), ("(1 - x^2)*D^2 - 2*x*D + 6", ()), ("(x - 1)*D - 3", ("1/(x + 1)",)), ("D^3 - x", ("x^4",)))


def some_equations(seed, count):
    """Equations with and without solutions."""
    source = random.Random(seed)
    found = [(operator(text), functions_of(*rights)) for text, rights in SOME]
    while len(found) < count + len(SOME):
        op = some_operator(source, source.randint(0, 2))
        if not op.is_zero():
            found.append((op, tuple(source.choice((some_function(source, 1), op(some_function(source, 1))))
                                    for _ in range(source.randint(0, 2)))))
    return found


class Making(unittest.TestCase):
    def test_word_by_word(self):
        for op, rights in some_equations(210, 25):
            space, paper = make_paper(op, rights)
            self.assertEqual(space, rational_space(op, rights))
            self.assertIs(type(paper), tuple)
            word, factors, degree, columns, multipliers = paper
            d, expected = denominator_bound(op, rights)
            self.assertEqual((word, factors), ("rational", expected))
            b, h = cleared(op * of_function(of_poly(d).inverse()), rights)
            self.assertEqual(degree, degree_bound(b, max([p.degree() for p in h if not p.is_zero()], default=None)))
            matrix = equations(b, h, degree)
            self.assertEqual(columns, matrix.reduced()[1])
            # For each column of a pivot what `solve` finds for the combination with 1 there and 0 at the others.
            chosen = Matrix([[row[k] for row in matrix] for k in columns], len(matrix))
            units = [vector(*[int(j == k) for j in range(len(columns))]) for k in range(len(columns))]
            self.assertEqual(multipliers, tuple([chosen.solve(unit)[1] for unit in units]))
            self.assertIs(takes(op, rights, space, paper), True)

    def test_kinds(self):
        for op, rights in some_equations(211, 5):
            _, factors, degree, columns, multipliers = make_paper(op, rights)[1]
            self.assertTrue(all(type(part) is tuple for part in (factors, columns, multipliers) + factors + multipliers))
            self.assertTrue(all(type(number) is int for number in (degree,) + columns))
            self.assertTrue(all(type(number) is Ratio for row in multipliers for number in row))

    def test_examples(self):
        space, paper = make_paper(operator("D - 1/x"))
        self.assertEqual(space, Space([(functions_of("x"), ())]))
        self.assertEqual(paper, ("rational", ((X, 0),), 1, (0,), (vector(-1),)))
        space, paper = make_paper(operator("D"), functions_of("1/x", "1/x^2"))
        self.assertEqual(space, Space([(functions_of("-1/x"), vector(0, 1)), (functions_of("1"), vector(0, 0))], sides=2))
        self.assertEqual(paper[:4], ("rational", ((X, 1),), 1, (0, 2)))

    def test_edges(self):
        self.assertEqual(make_paper(operator("D - 1")), (Space(()), ("rational", (), -1, (), ())))
        self.assertEqual(make_paper(operator("x"), ()), (Space(()), ("rational", (), -1, (), ())))
        self.assertEqual(make_paper(operator("2*x*D - 1"), ()), (Space(()), ("rational", ((X, 0),), -1, (), ())))
        self.assertEqual(make_paper(operator("D - 1"), functions_of("0")),
                         (Space([(functions_of("0"), vector(1))], sides=1), ("rational", (), -1, (), ())))
        self.assertEqual(make_paper(operator("(x^2 - 2)^2*D - 1"))[1][:3], ("rational", ((poly(-2, 0, 1), 0),), 0))

    def test_zero(self):
        for rights in ((), functions_of("1")):
            with self.assertRaises(Refused) as held:
                make_paper(Operator(()), rights)
            self.assertEqual(held.exception.reason, "zero")

    def test_great_degrees(self):
        for text, rights in (("x*D - 200", ()), ("(x + 1)*D + 150", ()), ("(1 - x^2)*D^2 - 2*x*D + 40*41", ()), ("D", ("x^30/(x - 1)^29",))):
            op, sides = operator(text), functions_of(*rights)
            space, paper = make_paper(op, sides)
            self.assertEqual(len(space), 1)
            self.assertIs(takes(op, sides, space, paper), True)

    def test_arguments_may_be_left_out(self):
        self.assertEqual(make_paper(operator("D")), make_paper(operator("D"), ()))
        self.assertEqual(make_paper(operator("D"), rights=functions_of("x"))[0].solution(vector(1)), (function("x^2/2"),))


if __name__ == "__main__":
    unittest.main()
