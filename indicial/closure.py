"""Operators of sums, images, products and powers of solutions."""

from math import comb

from indicial.common import left_multiple
from indicial.errors import Refused, ZeroDivisor
from indicial.operator import Operator
from indicial.ratfun import of_ratio
from indicial.ratio import Ratio, one, zero
from indicial.vectors import chain_from, companion_rows, unit_row


def of_sum(a, b):
    """Return the operator of y + z, for solutions y of a and z of b."""
    return left_multiple(a, b)[0]


def of_image(a, m):
    """Return the operator of m(y), for solutions y of a."""
    refuse_zero(a)
    rest = m.divide(a)[1]
    return annihilating([rest[i] for i in range(a.order())], companion_rows(a))


def of_product(a, b):
    """Return the operator of y z, for solutions y of a and z of b."""
    refuse_zero(a)
    refuse_zero(b)
    size = a.order() * b.order()
    return annihilating(unit_row(0, size), product_rows(companion_rows(a), companion_rows(b)))


def of_power(a, k, *, most=60):
    """Return the operator of y^k, k from 1 on, for solutions y of a."""
    refuse_zero(a)
    order = a.order()
    # With order 0 only zero is a solution: there is no monomial.
    count = comb(order + k - 1, k) if order > 0 else 0
    if count > most:
        raise Refused("large")
    monomials = monomials_of(order, k) if order > 0 else []
    return annihilating(unit_row(0, count), power_rows(monomials, companion_rows(a)))


def refuse_zero(a):
    """Raise ZeroDivisor for the operator zero."""
    if a.is_zero():
        raise ZeroDivisor("every function solves the operator zero")


def annihilating(start, rows):
    """Return the monic operator of the least order that annihilates an expression.

    The rows tell the derivatives of the symbols, the expression is a vector of their multiples.
    """
    weights = chain_from(start, rows)[1]
    return Operator([-f for f in weights] + [of_ratio(one())])


def product_rows(left, right):
    """Return the rows for the products of two symbols, those of the first left symbol first."""
    width = len(right)
    rows = []
    for i, first in enumerate(left):
        for j, second in enumerate(right):
            row = [of_ratio(zero()) for _ in range(len(left) * width)]
            for k, f in enumerate(first):
                row[k * width + j] = f
            for k, f in enumerate(second):
                row[i * width + k] = row[i * width + k] + f
            rows.append(row)
    return rows


def monomials_of(count, k):
    """Return the tuples of `count` exponents, from 1 on, with the sum k: first that of y^k."""
    found = [()]
    for _ in range(count - 1):
        found = [part + (e,) for part in found for e in range(k - sum(part), -1, -1)]
    return [part + (k - sum(part),) for part in found]


def power_rows(monomials, rows):
    """Return the rows for the monomials in symbols whose derivatives the `rows` tell."""
    places = {monomial: at for at, monomial in enumerate(monomials)}
    return [power_row(monomial, places, rows) for monomial in monomials]


def power_row(monomial, places, rows):
    """Return the row for one monomial."""
    found = [of_ratio(zero()) for _ in places]
    for i, e in enumerate(monomial):
        for j, f in enumerate(rows[i]):
            if e > 0 and not f.is_zero():
                at = places[exchanged(monomial, i, j)]
                found[at] = found[at] + of_ratio(Ratio(e)) * f
    return found


def exchanged(monomial, i, j):
    """Return the exponents with one less at i and then one more at j."""
    found = list(monomial)
    found[i] = found[i] - 1
    found[j] = found[j] + 1
    return tuple(found)
