"""The checker of papers: it searches for nothing.

Each check takes no more time than the size of the operator, the space and the paper explains. So the
degree is compared with the number of columns, and with a bound, before anything is made of its size.
"""

from indicial.clear import cleared
from indicial.divisor import common_divisor, even_order, is_squarefree, multiplicity, squarefree_part
from indicial.linear import is_vector
from indicial.local import degree_bound, least_order
from indicial.poly import Poly, product
from indicial.ratfun import added, of_ratio
from indicial.ratio import common_form, is_integer
from indicial.spaces import Space, columns_of, height_of, numerator_equation, numerator_operator


def takes(operator, rights, space, paper):
    """Return True if the paper shows that the space contains exactly the solutions of the equation."""
    if not isinstance(space, Space) or space.size != 1 or space.sides != len(rights):
        return False
    if not is_paper(paper):
        return False
    _, factors, degree, columns, multipliers = paper
    width = degree + 1 + len(rights)
    if len(space) != width - len(columns) or not are_columns(columns, width):
        return False
    return (bound_poles(operator, rights, factors) and bound_degree(operator, rights, factors, degree)
            and are_solutions(operator, rights, space)
            and bound_dimension(numerator_equation(operator, rights, factors), degree, columns, multipliers))


def is_paper(value):
    """Return True for a tuple of the parts of a paper, as far as each is told by itself."""
    if not isinstance(value, tuple) or len(value) != 5 or value[0] != "rational":
        return False
    _, factors, degree, columns, multipliers = value
    if not isinstance(factors, tuple) or not all([is_factor(pair) for pair in factors]):
        return False
    return (is_integer(degree) and degree >= -1 and isinstance(columns, tuple)
            and isinstance(multipliers, tuple) and len(multipliers) == len(columns))


def is_factor(value):
    """Return True for a pair of a monic squarefree polynomial of positive degree and an integer from 0 on."""
    if not isinstance(value, tuple) or len(value) != 2:
        return False
    p, k = value
    if not isinstance(p, Poly) or not is_integer(k) or k < 0:
        return False
    return is_squarefree(p) and p == p.monic()


def are_columns(columns, width):
    """Return True for strictly ascending integers from 0 to below the width."""
    if not all([is_integer(column) and 0 <= column < width for column in columns]):
        return False
    return all([columns[k] < columns[k + 1] for k in range(len(columns) - 1)])


def are_solutions(operator, rights, space):
    """Return True if each pair of the basis solves the equation."""
    for ys, cs in space:
        right = added([of_ratio(number) * g for number, g in zip(cs, rights) if not number.is_zero()])
        if operator(ys[0]) != right:
            return False
    return True


def bound_poles(operator, rights, factors):
    """Return True if the factors bound the orders of all poles of solutions."""
    a, g = cleared(operator, rights)
    places = [p for p, _ in factors]
    if not are_coprime(places) or not squarefree_part(a[-1]).divides(product(places)):
        return False
    sources = [h for h in g if not h.is_zero()]
    coefficients = [p for p in a if not p.is_zero()]
    for p, k in factors:
        if any([even_order(p, h) is None for h in coefficients + sources]):
            return False
        low = min([multiplicity(p, h) for h in sources], default=None)
        least = least_order(a, p, low)
        if least is not None and least < -k:
            return False
    return True


def are_coprime(polys):
    """Return True if any two of the polynomials have no common divisor of positive degree."""
    return all([common_divisor(polys[i], polys[j]).degree() == 0 for j in range(len(polys)) for i in range(j)])


def bound_degree(operator, rights, factors, degree):
    """Return True if no numerator of a solution has a greater degree.

    The degrees of the right sides, multiplied by d and cleared, are told without d itself.
    """
    moved = numerator_operator(operator, factors)
    b = cleared(moved, ())[0]
    high = max([g.degree() for g in rights if not g.is_zero()], default=None)
    if high is not None:
        clearing = b[-1].degree() - moved.leading().degree()
        high = high + clearing + sum([k * p.degree() for p, k in factors])
    return degree >= degree_bound(b, high)


def bound_dimension(equation, degree, columns, multipliers):
    """Return True if the multipliers show that these columns of the linear equations are independent."""
    b, h = equation
    found = columns_of(b, h, degree)
    height = height_of(found)
    if not all([is_vector(multiplier, height) for multiplier in multipliers]):
        return False
    wholes = [whole_column(found[k]) for k in columns]
    for at, multiplier in enumerate(multipliers):
        numbers, below = common_form(multiplier)
        for k, (pairs, under) in enumerate(wholes):
            expected = below * under if k == at else 0
            if sum([n * numbers[place] for place, n in pairs]) != expected:
                return False
    return True


def whole_column(column):
    """Return (pairs, under): the items of a column that are not zero as integers, divided by `under`."""
    places = list(column)
    numbers, under = common_form([column[place] for place in places])
    return [(place, n) for place, n in zip(places, numbers)], under
