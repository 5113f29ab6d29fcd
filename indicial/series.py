"""Power series of functions and of solutions, and the recurrences of their coefficients."""

from indicial.clear import cleared
from indicial.errors import Malformed, Refused
from indicial.local import falling
from indicial.poly import Poly
from indicial.ratfun import of_poly
from indicial.ratio import Ratio, one, total, zero
from indicial.roots import integer_roots


def expand(f, a, count):
    """Return the first coefficients of a function at a point that is no pole."""
    above = f.num.shifted(a)
    below = f.den.shifted(a)
    if below.coefficient(0).is_zero():
        raise Refused("pole")
    scale = below.coefficient(0).inverse()
    behind = [(k, number) for k, number in below.terms() if k > 0]
    found = []
    for n in range(count):
        known = total([number * found[n - k] for k, number in behind if k <= n])
        found.append((above.coefficient(n) - known) * scale)
    return tuple(found)


class Recurrence:
    """The rules that tell the coefficients of an image from those of a series at a point."""

    def __init__(self, operator, a):
        polys = cleared(operator, ())[0]
        self._pairs = rules_of([p.shifted(a) for p in polys])

    def __iter__(self):
        return iter(self._pairs)

    def __eq__(self, other):
        return isinstance(other, Recurrence) and self._pairs == other._pairs

    @property
    def first(self):
        """The least offset."""
        return self._pairs[0][0]

    @property
    def final(self):
        """The greatest offset."""
        return self._pairs[-1][0]

    def offsets(self):
        """Return the offsets, ascending."""
        return tuple([j for j, _ in self._pairs])

    def rule(self, j):
        """Return the rule of an offset, zero for other integers."""
        for offset, q in self._pairs:
            if offset == j:
                return q
        return Poly(())

    def image(self, series, count):
        """Return the first coefficients of the image of a polynomial."""
        return tuple([image_at(self._pairs, series, n, zero()) for n in range(count)])


def rules_of(polys):
    """Return the pairs of offsets and rules, ascending, for the coefficients of an operator at 0."""
    rules = {}
    # The polynomials falling(i) are of different degrees: no sum of multiples of them vanishes.
    for i, p in enumerate(polys):
        for m, number in p.terms():
            rules[i - m] = rules.get(i - m, Poly(())) + falling(i).scaled(number)
    return tuple([(j, rules[j]) for j in sorted(rules)])


def image_at(pairs, series, n, exponent):
    """Return the sum of the q_j(exponent + n + j) times the coefficients at n + j of the series."""
    known = [(q, n + j) for j, q in pairs if 0 <= n + j < len(series)]
    return total([q(exponent + Ratio(k)) * series[k] for q, k in known])


def solution(operator, a, initial, count, *, right=None):
    """Return the first coefficients of the solution with these coefficients below the order."""
    recurrence = Recurrence(operator, a)
    order = operator.order()
    if len(initial) != order:
        raise Malformed("there is not one initial coefficient for each number below the order")
    if recurrence.final != order:
        raise Refused("singular")
    given = [zero() for _ in range(count)]
    if right is not None:
        # The right side by the same multiple as the operator of the recurrence.
        last = of_poly(cleared(operator, ())[0][-1])
        given = expand(right // operator.leading() * last, a, count)
    return continued(recurrence, initial, given, count, zero())


def frobenius(operator, a, exponent, count):
    """Return the first coefficients of the solution that begins with (x - a) to the exponent."""
    recurrence = Recurrence(operator, a)
    top = recurrence.rule(recurrence.final)
    if not top(exponent).is_zero():
        raise Refused("exponent")
    if len(integer_roots(top.shifted(exponent), least=1)) > 0:
        raise Refused("resonance")
    given = [zero() for _ in range(count)]
    # With the exponent 0 at the greatest offset, c_n follows from the coefficient at n - final.
    return continued(recurrence, (one(),), given, count, exponent)


def continued(recurrence, initial, given, count, exponent):
    """Return the series whose next coefficients are such that the image is the given one."""
    final = recurrence.final
    top = recurrence.rule(final)
    lower = [(j - final, q) for j, q in recurrence if j < final]
    found = list(initial)
    for n in range(len(found), count):
        known = image_at(lower, found, n, exponent)
        found.append((given[n - len(initial)] - known).over(top(exponent + Ratio(n))))
    return tuple(found[:count])


def agrees(operator, a, series):
    """Return True if no coefficient of the image that the series settles is other than zero."""
    recurrence = Recurrence(operator, a)
    count = max(0, len(series) - recurrence.final)
    return all([number.is_zero() for number in recurrence.image(series, count)])
