"""Equations without denominators."""

from indicial.errors import Refused
from indicial.vectors import common_denominator, numerators, shared_divisor


def cleared(operator, rights):
    """Return the cleared form of an equation: the coefficients and the right sides as polynomials."""
    if operator.is_zero():
        raise Refused("zero")
    functions = list(operator.coefficients) + list(rights)
    polys = numerators(functions, common_denominator(functions))
    divisor = shared_divisor(polys)
    found = [p // divisor for p in polys]
    return tuple(found[:len(operator)]), tuple(found[len(operator):])
