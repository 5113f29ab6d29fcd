"""Spaces of pairs of functions and numbers, and all rational solutions of an equation."""

from indicial.clear import cleared
from indicial.divisor import balanced, multiplicity
from indicial.errors import Malformed
from indicial.linear import Matrix, are_zeros, combine, is_vector
from indicial.local import degree_bound, least_order
from indicial.poly import Poly, constant, product
from indicial.ratfun import RatFun, added, of_poly
from indicial.ratio import Ratio, is_integer, one, zero
from indicial.sparse import kernel_of
from indicial.vectors import common_denominator, numerators


class Space:
    """All sums of multiples of some pairs, each with `size` functions and `sides` numbers."""

    def __init__(self, pairs, *, size=1, sides=0):
        if not is_from(size, 1) or not is_from(sides, 0):
            raise Malformed("the size is an integer from 1 on, the number of sides one from 0 on")
        if not all([is_pair(pair, size, sides) for pair in pairs]):
            raise Malformed("a pair has not the functions and the numbers that are asked for")
        functions = [f for ys, _ in pairs for f in ys]
        self.size = size
        self.sides = sides
        self._den = common_denominator(functions)
        self._top = max([p.degree() for p in numerators(functions, self._den)], default=-1)
        width = sides + size * (self._top + 1)
        matrix, pivots = Matrix([self.vector(pair) for pair in pairs], width).reduced()
        self._matrix = matrix
        self._pivots = pivots
        self._basis = tuple([self.pair(row) for row in matrix.rows])

    def __len__(self):
        return len(self._basis)

    def __iter__(self):
        return iter(self._basis)

    def __eq__(self, other):
        return (isinstance(other, Space) and self.size == other.size and self.sides == other.sides
                and self._basis == other._basis)

    def __contains__(self, pair):
        if not is_pair(pair, self.size, self.sides):
            return False
        if not all([self.fits(f) for f in pair[0]]):
            return False
        vector = self.vector(pair)
        weights = [vector[pivot] for pivot in self._pivots]
        return vector == combine(self._matrix.rows, self._matrix.width, weights)

    def least_denominator(self):
        """Return the denominator of the space."""
        return self._den

    def top_degree(self):
        """Return the greatest degree of a function times the denominator, -1 if all are zero."""
        return self._top

    def solution(self, cs):
        """Return the functions of the pair with these numbers that takes nothing else in, or None."""
        if not is_vector(cs, self.sides):
            return None
        weights = [cs[pivot] if pivot < self.sides else zero() for pivot in self._pivots]
        ys, found = self.pair(combine(self._matrix.rows, self._matrix.width, weights))
        return ys if found == cs else None

    def homogeneous(self):
        """Return the space of the functions whose numbers are all zero, without sides."""
        return Space([(ys, ()) for ys, cs in self._basis if are_zeros(cs)], size=self.size)

    def fits(self, f):
        """Return True if the function can be told by a vector of this space."""
        if not (self._den % f.den).is_zero():
            return False
        return f.num.degree() + self._den.degree() - f.den.degree() <= self._top or f.is_zero()

    def vector(self, pair):
        """Return the vector of a pair: the numbers, then the coefficients of the functions."""
        ys, cs = pair
        polys = numerators(ys, self._den)
        return tuple(cs) + tuple([p.coefficient(k) for p in polys for k in range(self._top, -1, -1)])

    def pair(self, vector):
        """Return the pair with this vector."""
        count = self._top + 1
        starts = [self.sides + i * count for i in range(self.size)]
        polys = [Poly(vector[start:start + count][::-1]) for start in starts]
        return tuple([RatFun(p, self._den) for p in polys]), tuple(vector[:self.sides])


def is_from(value, least):
    """Return True for an integer of at least this size."""
    return is_integer(value) and value >= least


def is_pair(value, size, sides):
    """Return True for a tuple of a tuple of `size` functions and a tuple of `sides` numbers."""
    if not isinstance(value, tuple) or len(value) != 2:
        return False
    ys, cs = value
    if not isinstance(ys, tuple) or len(ys) != size or not is_vector(cs, sides):
        return False
    return all([isinstance(f, RatFun) for f in ys])


def denominator_bound(operator, rights):
    """Return (d, factors): a denominator of all solutions, and its factors with their powers."""
    factors = pole_factors(operator, rights)
    return expanded(factors), factors


def pole_factors(operator, rights):
    """Return the pairs of the places where solutions may have poles, and the greatest orders of these."""
    a, g = cleared(operator, rights)
    sources = [h for h in g if not h.is_zero()]
    found = []
    for p in balanced([f for f in a if not f.is_zero()] + sources):
        if p.divides(a[-1]):
            low = min([multiplicity(p, h) for h in sources], default=None)
            least = least_order(a, p, low)
            found.append((p, 0 if least is None else max(0, -least)))
    return tuple(found)


def expanded(factors):
    """Return the product of the powers of the places."""
    return product([p.power(k) for p, k in factors])


def numerator_operator(operator, factors):
    """Return d times the operator of u, for y = u / d and the factors of d."""
    # d times the product of the operator and 1/d is the operator moved by -d' / d: d itself, which
    # may be large, is not needed.
    return operator.moved(added([RatFun(p.derivative().scaled(Ratio(-k)), p) for p, k in factors]))


def numerator_equation(operator, rights, factors):
    """Return the cleared form of the equation of u, for y = u / d and the factors of d."""
    if any([not g.is_zero() for g in rights]):
        scale = of_poly(expanded(factors))
        rights = [g * scale for g in rights]
    return cleared(numerator_operator(operator, factors), rights)


def greatest_degree(polys):
    """Return the greatest degree of the polynomials that are not zero, None if there is none."""
    return max([p.degree() for p in polys if not p.is_zero()], default=None)


def image_of_power(a, k):
    """Return what the operator with these coefficients makes of x^k: a dict from powers to numbers."""
    found = {}
    factor = 1
    for i, p in enumerate(a):
        if factor != 0:
            for m, number in p.terms():
                at = k - i + m
                found[at] = found.get(at, zero()) + number * Ratio(factor)
        factor = factor * (k - i)
    return {at: number for at, number in found.items() if not number.is_zero()}


def columns_of(a, g, degree):
    """Return the columns of the equations, each a dict from the powers of x to numbers."""
    found = [image_of_power(a, k) for k in range(degree + 1)]
    return found + [{at: -number for at, number in h.terms()} for h in g]


def equations(a, g, degree):
    """Return the matrix whose kernel gives the solutions of at most this degree."""
    columns = columns_of(a, g, degree)
    nothing = zero()
    rows = [[column.get(at, nothing) for column in columns] for at in range(height_of(columns))]
    return Matrix(rows, len(columns))


def height_of(columns):
    """Return the number of the equations with these columns."""
    return 1 + max([at for column in columns for at in column], default=-1)


def solving_vectors(a, g, degree):
    """Return a basis of the kernel of the equations."""
    columns = columns_of(a, g, degree)
    rows = {}
    for k, column in enumerate(columns):
        for at, number in column.items():
            row = rows.setdefault(at, {})
            row[k] = number
    # From the highest power down most rows bring a new least column: little is left to cancel.
    return kernel_of([rows[at] for at in sorted(rows, reverse=True)], len(columns))


def space_over(factors, a, g):
    """Return the Space of the u / d, with the factors of d, for all polynomials u that solve a cleared equation."""
    degree = degree_bound(a, greatest_degree(g))
    vectors = solving_vectors(a, g, degree)
    den = expanded(factors) if len(vectors) > 0 else constant(one())
    pairs = [((RatFun(Poly(row[:degree + 1]), den),), row[degree + 1:]) for row in vectors]
    return Space(pairs, sides=len(g))


def polynomial_space(operator, rights=()):
    """Return the space of all solutions that are polynomials."""
    a, g = cleared(operator, rights)
    return space_over((), a, g)


def rational_space(operator, rights=()):
    """Return the space of all solutions."""
    factors = pole_factors(operator, rights)
    b, h = numerator_equation(operator, rights, factors)
    return space_over(factors, b, h)
