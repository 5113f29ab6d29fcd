"""Spaces of solutions with papers that no solution is missing."""

from indicial.linear import Matrix
from indicial.local import degree_bound
from indicial.spaces import equations, greatest_degree, numerator_equation, pole_factors, space_over


def make_paper(operator, rights=()):
    """Return (space, paper) for an equation: the space of all solutions and a paper for it."""
    factors = pole_factors(operator, rights)
    b, h = numerator_equation(operator, rights, factors)
    degree = degree_bound(b, greatest_degree(h))
    matrix = equations(b, h, degree)
    columns = matrix.reduced()[1]
    chosen = matrix.transposed()
    # The duals of the columns of the pivots are what `solve` finds for each of them, at one time.
    multipliers = Matrix([chosen.rows[k] for k in columns], len(matrix)).duals()
    return space_over(factors, b, h), ("rational", factors, degree, columns, multipliers)
