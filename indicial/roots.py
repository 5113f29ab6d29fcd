"""Resultants, and the rational roots of polynomials."""

from indicial.divisor import squarefree_part
from indicial.errors import Malformed
from indicial.integers import (
    divisor_modulo, inverse_modulo, row_derivative, symmetric)
from indicial.poly import Poly, constant
from indicial.ratio import Ratio, is_integer, one, zero


def resultant(p, q):
    """Return the determinant of the matrix of the coefficients of both polynomials."""
    if p.is_zero() or q.is_zero():
        return zero()
    found = one()
    # The resultant of p and q follows from that of q and the remainder of p, made primitive.
    while q.degree() > 0:
        rest = p % q
        if rest.is_zero():
            return zero()
        scale, numbers = rest.primitive()
        if p.degree() * q.degree() % 2 == 1:
            found = -found
        found = found * q.last().power(p.degree() - rest.degree()) * scale.power(q.degree())
        p, q = q, Poly(numbers)
    return found * q.last().power(p.degree())


def resultant_in_v(p, rows):
    """Return the polynomial in v: the product of the sum of the rows times v^i over the roots of p."""
    if p.degree() < 1:
        raise Malformed("a resultant in v asks for a polynomial of positive degree")
    size = len(rows)
    while size > 0 and rows[size - 1].is_zero():
        size = size - 1
    if size == 0:
        return Poly(())
    bound = max([row.degree() for row in rows])
    values = [product_over_roots(p, rows[:size], v, bound) for v in range((size - 1) * p.degree() + 1)]
    return interpolated(values)


def product_over_roots(p, rows, v, bound):
    """Return the value at v of the resultant in v, with the power `bound` of the last coefficient."""
    value = Poly(())
    for row in rows[::-1]:
        value = value.scaled(Ratio(v)) + row
    return resultant(p, value) * p.last().power(bound - value.degree())


def interpolated(values):
    """Return the polynomial of a degree below their number with these values at 0, 1, 2, .."""
    differences = []
    rest = list(values)
    while len(rest) > 0:
        differences.append(rest[0])
        rest = [rest[k + 1] - rest[k] for k in range(len(rest) - 1)]
    found = Poly(())
    for k in range(len(differences) - 1, -1, -1):
        found = found * Poly((Ratio(-k, k + 1), Ratio(1, k + 1))) + constant(differences[k])
    return found


def rational_roots(p):
    """Return the rational roots, ascending, each once."""
    part = squarefree_part(p)
    if part.degree() == 0:
        return ()
    numbers = part.primitive()[1]
    last = numbers[-1]
    prime = suitable_prime(numbers)
    found = []
    for residue in range(prime):
        if value_modulo(numbers, residue, prime) == 0:
            above = lifted_numerator(numbers, residue, prime)
            if part(Ratio(above, last)).is_zero():
                found.append(above)
    return tuple([Ratio(above, last) for above in sorted(found)])


def lifted_numerator(numbers, residue, prime):
    """Return the only candidate for `last` times a root with this residue: an integer."""
    bound = 4 * max([abs(n) for n in numbers])
    slope = row_derivative(numbers)
    m = prime
    root = residue
    while m <= bound:
        m = m * m
        step = value_modulo(numbers, root, m) * inverse_modulo(value_modulo(slope, root, m), m)
        root = (root - step) % m
    return symmetric(numbers[-1] * root, m)


def suitable_prime(numbers):
    """Return the least prime modulo which the row keeps its degree and is squarefree."""
    m = 2
    while not is_suitable(numbers, m):
        m = m + 1
    return m


def is_suitable(numbers, m):
    """Return True if m is a prime modulo which the row keeps its degree and is squarefree."""
    if not is_prime(m) or numbers[-1] % m == 0:
        return False
    return len(divisor_modulo(numbers, row_derivative(numbers), m)) == 1


def is_prime(m):
    """Return True for a prime, m being at least 2."""
    k = 2
    while k * k <= m:
        if m % k == 0:
            return False
        k = k + 1
    return True


def value_modulo(row, a, m):
    """Return the value of the row at a modulo m."""
    found = 0
    for n in row[::-1]:
        found = (found * a + n) % m
    return found


def integer_roots(p, *, least=None, most=None):
    """Return the integer roots within the bounds, ascending, each once."""
    found = [root.n for root in rational_roots(p) if root.whole]
    if is_integer(least):
        found = [n for n in found if n >= least]
    if is_integer(most):
        found = [n for n in found if n <= most]
    return tuple(found)
