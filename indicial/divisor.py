"""Greatest common divisors, squarefree and balanced polynomials."""

from indicial.errors import Malformed, ZeroDivisor
from indicial.integers import row_divisor
from indicial.poly import Poly, constant
from indicial.ratio import one


def common_divisor(p, q):
    """Return the greatest common divisor, monic, or zero if both are zero."""
    if p.is_zero():
        return q.monic()
    if q.is_zero():
        return p.monic()
    if p.degree() == 0 or q.degree() == 0:
        return constant(one())
    return Poly(row_divisor(p.primitive()[1], q.primitive()[1])).monic()


def cofactors(p, q):
    """Return (g, u, v) with the greatest common divisor g = u p + v q, u of the least degree."""
    if q.is_zero():
        if p.is_zero():
            return p, p, q
        return p.monic(), constant(p.last().inverse()), q
    divisor = common_divisor(p, q)
    u = inverse_by(p // divisor, q // divisor)
    return divisor, u, (divisor - u * p) // q


def inverse_by(p, q):
    """Return the u of a lower degree than q for which q divides u p - 1, for coprime p and q."""
    if q.degree() == 0:
        return Poly(())
    before, rest = q, p % q
    last, found = Poly(()), constant(one())
    # In each step q divides found p - rest; both are scaled to keep the numbers small.
    while rest.degree() > 0:
        quotient, remainder = before.divided_by(rest)
        scale = remainder.primitive()[0].inverse()
        before, rest = rest, remainder.scaled(scale)
        last, found = found, (last - quotient * found).scaled(scale)
    return found.scaled(rest.last().inverse()) % q


def combine_to(a, b, c):
    """Return (s, t) with s a + t b = c, s of the least degree, or None if there is no such pair."""
    divisor, u, v = cofactors(a, b)
    if not divisor.divides(c):
        return None
    if divisor.is_zero():
        return divisor, divisor
    if b.is_zero():
        return u * (c // divisor), v
    s = u * (c // divisor) % (b // divisor)
    return s, (c - s * a) // b


def squarefree_parts(p):
    """Return the pairs (part, k), ascending: p is its last coefficient times all part^k."""
    slope = p.monic().derivative()
    rest = squarefree_part(p)
    slope = slope // (p.monic() // rest)
    parts = []
    k = 1
    # slope / rest is the sum of j - k + 1 times part' / part over the parts with exponents j from k on:
    # less the derivative of rest, it has no share of the part with the exponent k.
    while rest.degree() > 0:
        slope = slope - rest.derivative()
        part = common_divisor(rest, slope)
        if part.degree() > 0:
            parts.append((part, k))
        rest = rest // part
        slope = slope // part
        k = k + 1
    return tuple(parts)


def squarefree_part(p):
    """Return the monic squarefree polynomial with the same roots."""
    if p.is_zero():
        raise ZeroDivisor("zero has no squarefree part")
    monic = p.monic()
    return monic // common_divisor(monic, monic.derivative())


def separate(p, q):
    """Return (p1, p2) with p = p1 p2, the roots of p1 roots of q, p2 coprime to q."""
    if p.is_zero():
        raise ZeroDivisor("zero cannot be separated")
    inside = constant(one())
    outside = p
    common = common_divisor(outside, q)
    while common.degree() > 0:
        inside = inside * common
        outside = outside // common
        common = common_divisor(outside, common)
    return inside, outside


def multiplicity(p, a):
    """Return the greatest k such that p^k divides a, for p of positive degree."""
    return divided_out(p, a)[0]


def divided_out(p, a):
    """Return (k, a / p^k) with the greatest k such that p^k divides a."""
    if a.is_zero():
        raise ZeroDivisor("zero has no multiplicity")
    if p.degree() < 1:
        raise Malformed("a multiplicity asks for a polynomial of positive degree")
    k = 0
    quotient, rest = a.divided_by(p)
    while rest.is_zero():
        k = k + 1
        a = quotient
        quotient, rest = a.divided_by(p)
    return k, a


def even_order(p, a):
    """Return the order of a at the roots of p if it is the same at all of them, otherwise None."""
    k, rest = divided_out(p, a)
    if common_divisor(p, rest).degree() > 0:
        return None
    return k


def is_squarefree(p):
    """Return True for a squarefree polynomial of positive degree."""
    return p.degree() > 0 and common_divisor(p, p.derivative()).degree() == 0


def balance(p, a):
    """Return the pairs (part, order): p split up by the orders of a at its roots, ascending."""
    if not is_squarefree(p):
        raise Malformed("only a squarefree polynomial of positive degree is balanced")
    if a.is_zero():
        raise ZeroDivisor("zero has no order")
    parts = []
    here = p.monic()
    order = 0
    # `here` has the roots of at least this order; `a` is divided once by each of them in a step.
    while here.degree() > 0:
        above = common_divisor(here, a)
        if above.degree() < here.degree():
            parts.append((here // above, order))
        here = above
        a = a // above
        order = order + 1
    return tuple(parts)


def balanced(polys):
    """Return the coarsest balanced basis, ascending by degree and then by the coefficients."""
    found = []
    roots = constant(one())
    for a in polys:
        part = squarefree_part(a)
        roots = roots * (part // common_divisor(roots, part))
    if roots.degree() > 0:
        found = [roots]
    for a in polys:
        found = [part for p in found for part, _ in balance(p, a)]
    return tuple(sorted(found, key=place))


def place(p):
    """Return what the order of a basis is told by: the degree, then the coefficients."""
    return (p.degree(), tuple([(number.n, number.d) for number in p.row]))
