"""Local exponents of operators with polynomials as coefficients."""

from indicial.divisor import common_divisor, even_order, is_squarefree, multiplicity
from indicial.errors import Malformed
from indicial.poly import Poly, constant
from indicial.ratio import Ratio, one
from indicial.roots import integer_roots, rational_roots, resultant_in_v
from indicial.zeros import shared_zeros


def falling(k):
    """Return the polynomial v (v - 1) .. (v - k + 1)."""
    found = constant(one())
    for i in range(k):
        found = found * Poly((-i, 1))
    return found


def reach(polys, p):
    """Return (s, indexes): the lowest shift, and the indexes that reach it, ascending."""
    shifts = [(i, multiplicity(p, a) - i) for i, a in enumerate(polys) if not a.is_zero()]
    lowest = min([shift for _, shift in shifts])
    return lowest, tuple([i for i, shift in shifts if shift == lowest])


class Exponents:
    """The indicial polynomial at the roots of p."""

    def __init__(self, polys, p):
        refuse_without_last(polys)
        if not is_squarefree(p) or p != p.monic():
            raise Malformed("a place is a monic squarefree polynomial of positive degree")
        if any([even_order(p, a) is None for a in polys if not a.is_zero()]):
            raise Malformed("the place is not balanced for a coefficient")
        lowest, indexes = reach(polys, p)
        self._place = p
        self._lowest = lowest
        self._rows = indicial_rows(polys, p, lowest, indexes)

    @property
    def lowest(self):
        """The lowest shift."""
        return self._lowest

    def __len__(self):
        return len(self._rows)

    def __iter__(self):
        return iter(self._rows)

    def __contains__(self, v):
        return common_divisor(self.value(v), self._place).degree() > 0

    def value(self, v):
        """Return the value of the indicial polynomial at a number, a polynomial in x."""
        found = Poly(())
        for row in self._rows[::-1]:
            found = found.scaled(v) + row
        return found

    def eliminant(self):
        """Return the polynomial in v whose roots are the exponents."""
        return resultant_in_v(self._place, self._rows)

    def integers(self):
        """Return the integer exponents, ascending."""
        return tuple([v.n for v in self.rationals() if v.whole])

    def rationals(self):
        """Return the rational exponents, ascending."""
        return shared_zeros(self._place, self._rows)


def refuse_without_last(polys):
    """Raise Malformed if there is no last polynomial, or if it is zero."""
    if len(polys) == 0 or polys[-1].is_zero():
        raise Malformed("the last coefficient is missing or zero")


def indicial_rows(polys, p, lowest, indexes):
    """Return the coefficients of the indicial polynomial: remainders by p, from that of v^0 on."""
    rows = [Poly(()) for _ in range(indexes[-1] + 1)]
    slope = p.derivative() % p
    for i in indexes:
        part = polys[i] // p.power(lowest + i) * slope.power(i) % p
        factor = falling(i)
        rows = [row + part.scaled(factor.coefficient(k)) for k, row in enumerate(rows)]
    return tuple(rows)


class Infinity:
    """The indicial polynomial at infinity."""

    def __init__(self, polys):
        refuse_without_last(polys)
        shifts = [(i, a.degree() - i) for i, a in enumerate(polys) if not a.is_zero()]
        highest = max([shift for _, shift in shifts])
        found = Poly(())
        for i, shift in shifts:
            if shift == highest:
                found = found + falling(i).scaled(polys[i].last())
        self._highest = highest
        self._indicial = found

    @property
    def highest(self):
        """The highest shift."""
        return self._highest

    def __contains__(self, v):
        return Poly((-v, Ratio(1))).divides(self._indicial)

    def polynomial(self):
        """Return the indicial polynomial in v."""
        return self._indicial

    def integers(self):
        """Return the integer exponents, ascending."""
        return integer_roots(self._indicial)

    def rationals(self):
        """Return the rational exponents, ascending."""
        return rational_roots(self._indicial)


def least_order(polys, p, low):
    """Return the least order of y at the roots of p if L(y) has at least the order `low` there.

    None stands for no such bound: as `low`, for L(y) = 0; as the result, for y = 0 alone.
    """
    exponents = Exponents(polys, p)
    found = list(exponents.integers())
    if low is not None:
        found.append(low - exponents.lowest)
    return min(found, default=None)


def degree_bound(polys, high):
    """Return the greatest degree of y if L(y) has at most the degree `high`; None is for L(y) = 0."""
    infinity = Infinity(polys)
    found = [-1] + list(infinity.integers())
    if high is not None:
        found.append(high - infinity.highest)
    return max(found)
