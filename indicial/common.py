"""Common divisors and multiples of operators: division is from the right."""

from indicial.errors import ZeroDivisor
from indicial.operator import Operator, of_function
from indicial.ratfun import RatFun, of_ratio
from indicial.ratio import one
from indicial.vectors import common_denominator, numerators, shared_factor


def right_divisor(a, b):
    """Return (g, u, v) with the greatest common right divisor g = u * a + v * b."""
    if b.is_zero():
        if a.is_zero():
            return a, a, b
        return a.monic(), of_function(a.leading().inverse()), b
    rest, found, _ = euclid(a, b)
    scale = rest.leading().inverse()
    divisor = rest.scaled(scale)
    u = found.scaled(scale)
    return divisor, u, (divisor - u * a).divide(b)[0]


def left_multiple(a, b):
    """Return (m, u, v) with the least common left multiple m = u * a = v * b."""
    if a.is_zero() or b.is_zero():
        raise ZeroDivisor("zero has no multiple but zero")
    found = euclid(a, b)[2]
    multiple = found * a
    scale = multiple.leading().inverse()
    multiple = multiple.scaled(scale)
    return multiple, found.scaled(scale), multiple.divide(b)[0]


def euclid(a, b):
    """Return (g, u, w): g is a greatest common right divisor, and b divides g - u * a.

    If b is not zero, w is of the least order such that b divides w * a.
    """
    before, rest = a, b
    last, found = of_function(of_ratio(one())), Operator(())
    # b divides rest - found * a in each step; both are scaled to keep the functions small.
    while not rest.is_zero():
        times, remainder = before.divide(rest)
        scale = normal_scale(remainder)
        before, rest = rest, remainder.scaled(scale)
        last, found = found, (last - times * found).scaled(scale)
    return before, last, found


def normal_scale(operator):
    """Return the function that makes the coefficients coprime polynomials; 1 for zero."""
    below = common_denominator(operator.coefficients)
    return RatFun(below, shared_factor(numerators(operator.coefficients, below)))


def quotient(a, m):
    """Return the q with a = q * m, or None."""
    if m.is_zero():
        return a if a.is_zero() else None
    found, rest = a.divide(m)
    return found if rest.is_zero() else None


def share(a, b):
    """Return True if a divisor of positive order divides both from the right."""
    return euclid(a, b)[0].order() > 0
