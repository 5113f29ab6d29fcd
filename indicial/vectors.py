"""Vectors of rational functions: common denominators, linear relations, chains of derivatives.

A chain starts with a vector v_0 and goes on with v_(k+1) = v_k' + v_k A, for the rows of a square
matrix A.
"""

from math import gcd, lcm

from indicial.divisor import common_divisor
from indicial.poly import Poly, constant
from indicial.ratfun import RatFun, added, of_ratio
from indicial.ratio import Ratio, one


def common_denominator(functions):
    """Return the monic polynomial of the least degree that makes all of them polynomials."""
    found = constant(one())
    for f in functions:
        if f.den.degree() > 0:
            found = found * (f.den // common_divisor(found, f.den))
    return found


def numerators(functions, den):
    """Return the list of the polynomials that the functions times `den` are."""
    return [f.num * (den // f.den) for f in functions]


def shared_divisor(polys):
    """Return the monic greatest common divisor, zero if there is none but zeros."""
    found = Poly(())
    for p in sorted(polys, key=degree_of):
        if found.degree() != 0:
            found = common_divisor(found, p)
    return found


def degree_of(p):
    """Return the degree of a polynomial."""
    return p.degree()


def shared_factor(polys):
    """Return the polynomial that leaves coprime polynomials with coprime integers; 1 for zeros."""
    divisor = shared_divisor(polys)
    if divisor.is_zero():
        return constant(one())
    above = 0
    below = 1
    for p in polys:
        if not p.is_zero():
            share = (p // divisor).primitive()[0]
            above = gcd(above, share.n)
            below = lcm(below, share.d)
    return divisor.scaled(Ratio(above, below))


def without_factor(polys):
    """Return the polynomials divided by all that they share."""
    factor = shared_factor(polys)
    if factor.degree() > 0:
        return [p // factor for p in polys]
    scale = factor.last().inverse()
    return [p.scaled(scale) for p in polys]


def reduced_by(entries, vector):
    """Return the entry of a vector behind the entries of independent vectors of the same length.

    An entry is (pivot, polys): the polynomials of a combination of the vectors so far that is 0 at
    the pivots of the entries before, then their weights in it. The pivot is the first column that
    is not 0; it is -1 if the combination is zero.
    """
    size = len(vector)
    den = common_denominator(vector)
    nothing = Poly(())
    found = without_factor(numerators(vector, den) + [nothing for _ in entries] + [den])
    for pivot, polys in entries:
        if not found[pivot].is_zero():
            common = common_divisor(found[pivot], polys[pivot])
            keep = polys[pivot] // common
            take = found[pivot] // common
            longer = polys + [nothing for _ in range(len(found) - len(polys))]
            found = without_factor([keep * p - take * q for p, q in zip(found, longer)])
    return first_column(found[:size]), found


def first_column(polys):
    """Return the index of the first polynomial that is not zero, -1 if there is none."""
    for at, p in enumerate(polys):
        if not p.is_zero():
            return at
    return -1


def combination(polys, size):
    """Return the multiples of the vectors before that add up to a vector, read from its entry."""
    last = polys[-1]
    return [RatFun(-p, last) for p in polys[size:-1]]


def chain_from(start, rows):
    """Return (vectors, weights): a chain up to the first vector that the ones before it combine to.

    The weights are the multiples of the vectors that add up to the next one.
    """
    vectors = []
    entries = []
    vector = list(start)
    pivot, polys = reduced_by(entries, vector)
    while pivot >= 0:
        vectors.append(vector)
        entries.append((pivot, polys))
        vector = next_vector(vector, rows)
        pivot, polys = reduced_by(entries, vector)
    return vectors, combination(polys, len(vector))


def next_vector(vector, rows):
    """Return the vector behind another one in a chain."""
    moved = times_rows(vector, rows, len(vector))
    return [f.derivative() + g for f, g in zip(vector, moved)]


def times_rows(vector, rows, width):
    """Return the product of a vector and a matrix with rows of this width."""
    parts = [(f, row) for f, row in zip(vector, rows) if not f.is_zero()]
    return [added([f * row[k] for f, row in parts if not row[k].is_zero()]) for k in range(width)]


def times_vector(a, b):
    """Return the product of two vectors."""
    return added([f * g for f, g in zip(a, b) if not f.is_zero() and not g.is_zero()])


def unit_row(at, length):
    """Return the vector with 1 at one index and 0 elsewhere."""
    return [of_ratio(Ratio(1 if k == at else 0)) for k in range(length)]


def companion_rows(operator):
    """Return the rows that tell the derivatives of y, y', .. by these, for a solution y."""
    order = operator.order()
    rows = [unit_row(i + 1, order) for i in range(order - 1)]
    if order > 0:
        rows.append([-operator[i] // operator.leading() for i in range(order)])
    return rows
