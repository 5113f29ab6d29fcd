"""Products of powers with rational exponents, and the solutions that are such products times functions."""

from indicial.clear import cleared
from indicial.divisor import balance, squarefree_part
from indicial.local import Exponents, Infinity, least_order
from indicial.poly import Poly
from indicial.ratfun import RatFun, added, multiplied, of_poly
from indicial.ratio import Ratio, common_form, one, total, zero
from indicial.roots import rational_roots
from indicial.spaces import rational_space


class PowerProduct:
    """The product of the (x - s)^e over its factors (s, e), ascending by s, with e between 0 and 1."""

    def __init__(self, factors):
        numbers, below = common_form([s for s, _ in factors])
        sums = {}
        for n, (_, e) in zip(numbers, factors):
            sums[n] = sums.get(n, zero()) + e
        found = [(Ratio(n, below), class_of(sums[n])) for n in sorted(sums)]
        self._factors = tuple([(s, e) for s, e in found if not e.is_zero()])

    def __iter__(self):
        return iter(self._factors)

    def __len__(self):
        return len(self._factors)

    def __mul__(self, other):
        return PowerProduct(self._factors + other._factors)

    def __eq__(self, other):
        return isinstance(other, PowerProduct) and self._factors == other._factors

    def __str__(self):
        return str(factors_text(self._factors, "x"))

    def log_derivative(self):
        """Return the logarithmic derivative, a rational function."""
        return added([RatFun(Poly((e,)), linear_poly(s)) for s, e in self._factors])

    def surplus(self, two):
        """Return the function by which the product of both, as functions, differs from that of their classes."""
        points = [s for s, e in self._factors for t, f in two if s == t and (e + f).compare(one()) >= 0]
        return multiplied([of_poly(linear_poly(s)) for s in points])

    @classmethod
    def without_factors(cls):
        """Return the product without factors, 1."""
        return cls(())


def class_of(number):
    """Return the number from 0 to below 1 that differs by an integer."""
    return Ratio(number.n % number.d, number.d)


def linear_poly(s):
    """Return the polynomial x - s."""
    return Poly((-s, 1))


def factors_text(factors, name):
    """Return the text of the product of some factors, with the letter of the variable."""
    if len(factors) == 0:
        return "1"
    return "*".join([factor_text(s, e, name) for s, e in factors])


def factor_text(s, e, name):
    """Return the text of one factor."""
    if s.is_zero():
        return f"{name}^({str(e)})"
    if s.sign() < 0:
        return f"({name} + {str(-s)})^({str(e)})"
    return f"({name} - {str(s)})^({str(e)})"


def rational_places(polys):
    """Return the pairs of a rational zero of the last coefficient and the rational exponents there."""
    return [(s, Exponents(polys, linear_poly(s)).rationals()) for s in rational_roots(polys[-1])]


def least_exponents(exponents):
    """Return the least of the ascending exponents in each class modulo 1, in the order of the classes."""
    numbers = common_form([class_of(e) for e in exponents])[0]
    found = {}
    for n, e in zip(numbers, exponents):
        found.setdefault(n, e)
    return [found[n] for n in sorted(found)]


def candidates(operator):
    """Return the pairs of a rational zero of the last coefficient and the classes of its exponents."""
    places = rational_places(cleared(operator, ())[0])
    return tuple([(s, tuple([class_of(e) for e in least_exponents(found)])) for s, found in places])


def power_products(operator):
    """Return the pairs (product, space): all solutions that are a power product times a function."""
    pairs = []
    for factors in choices(cleared(operator, ())[0]):
        factor = PowerProduct(factors)
        space = rational_space(operator.moved(factor.log_derivative()))
        if len(space) > 0:
            pairs.append((factor, space))
    return tuple(pairs)


def choices(polys):
    """Return the choices of one class at each candidate that may belong to a solution, in their order.

    The orders of a solution at all points add up to its degree, which is an exponent at infinity. So
    there is an exponent at infinity that is by an integer from 0 on greater than the sum of the least
    orders with these classes. What the greatest exponent leaves of such a sum never falls below 0.
    """
    places = rational_places(polys)
    degrees = Infinity(polys).rationals()
    elsewhere = least_total(polys, [s for s, _ in places])
    if elsewhere is None or len(degrees) == 0 or any([len(exponents) == 0 for _, exponents in places]):
        return []
    least = total([exponents[0] for _, exponents in places]) + Ratio(elsewhere)
    found = [((), degrees[-1] - least)]
    for s, exponents in places:
        longer = [(factors + ((s, e),), left - (e - exponents[0]))
                  for factors, left in found for e in least_exponents(exponents)]
        found = [(factors, left) for factors, left in longer if left.sign() >= 0]
    lacks = [degrees[-1] - degree for degree in degrees]
    return [factors for factors, left in found if any([is_count(left - lack) for lack in lacks])]


def is_count(number):
    """Return True for an integer from 0 on."""
    return number.whole and number.sign() >= 0


def least_total(polys, points):
    """Return the least sum of the orders of a solution at all other points, None if there is no solution.

    The points given are the rational zeros of the last coefficient.
    """
    rest = squarefree_part(polys[-1])
    for s in points:
        rest = rest // linear_poly(s)
    parts = [rest] if rest.degree() > 0 else []
    for a in polys:
        if not a.is_zero():
            parts = [part for p in parts for part, _ in balance(p, a)]
    orders = [(p.degree(), least_order(polys, p, None)) for p in parts]
    if any([order is None for _, order in orders]):
        return None
    return sum([degree * order for degree, order in orders])


def all_members(operator):
    """Yield the pairs (product, function), one for each function of the bases of the power products."""
    for factor, space in power_products(operator):
        for ys, _ in space:
            yield factor, ys[0]


def solves(operator, product, f):
    """Return True if the operator takes the product times the function to zero."""
    moved = operator.moved(product.log_derivative())
    return moved(f).is_zero()
