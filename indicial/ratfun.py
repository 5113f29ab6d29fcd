"""Rational functions of x."""

from indicial.divisor import common_divisor, even_order
from indicial.errors import Refused, ZeroDivisor
from indicial.poly import constant, variable
from indicial.ratio import one, zero


class RatFun:
    """The function num / den, kept in lowest terms with a monic denominator."""

    def __init__(self, num, den):
        if den.is_zero():
            raise ZeroDivisor("the denominator is zero")
        common = common_divisor(num, den)
        if common.degree() > 0:
            num = num // common
            den = den // common
        self.num = num.scaled(den.last().inverse())
        self.den = den.monic()

    def __add__(self, other):
        common = common_divisor(self.den, other.den)
        left = other.den // common
        right = self.den // common
        return RatFun(self.num * left + other.num * right, self.den * left)

    def __sub__(self, other):
        common = common_divisor(self.den, other.den)
        left = other.den // common
        right = self.den // common
        return RatFun(self.num * left - other.num * right, self.den * left)

    def __mul__(self, other):
        return RatFun(self.num * other.num, self.den * other.den)

    def __neg__(self):
        return RatFun(-self.num, self.den)

    def __floordiv__(self, other):
        return self * other.inverse()

    def __eq__(self, other):
        return isinstance(other, RatFun) and self.num == other.num and self.den == other.den

    def __call__(self, q):
        below = self.den(q)
        if below.is_zero():
            return None
        return self.num(q).over(below)

    def is_zero(self):
        """Return True for zero."""
        return self.num.is_zero()

    def is_polynomial(self):
        """Return True if there is no pole."""
        return self.den.degree() == 0

    def as_constant(self):
        """Return the number that it is, or None."""
        if self.num.degree() > 0 or self.den.degree() > 0:
            return None
        return self.num.coefficient(0)

    def derivative(self):
        """Return the derivative."""
        slope = self.den.derivative()
        # Without the common divisor the fraction is less far from its lowest terms.
        common = common_divisor(self.den, slope)
        den = self.den // common
        num = self.num.derivative() * den - self.num * (slope // common)
        return RatFun(num, self.den * den)

    def log_derivative(self):
        """Return the derivative divided by the function."""
        return self.derivative() // self

    def inverse(self):
        """Return 1 divided by the function."""
        return RatFun(self.den, self.num)

    def power(self, k):
        """Return the power with any integer as its exponent."""
        if k < 0:
            return self.inverse().power(-k)
        return RatFun(self.num.power(k), self.den.power(k))

    def order_at(self, p):
        """Return the order at the roots of p, None if it is not the same at all of them."""
        if self.is_zero():
            raise Refused("zero")
        above = even_order(p, self.num)
        below = even_order(p, self.den)
        if above is None or below is None:
            return None
        return above - below

    def degree(self):
        """Return the degree of the numerator less that of the denominator."""
        if self.is_zero():
            raise Refused("zero")
        return self.num.degree() - self.den.degree()

    def leading(self):
        """Return the last coefficient of the numerator."""
        if self.is_zero():
            raise Refused("zero")
        return self.num.last()

    def shifted(self, q):
        """Return the function of x + q."""
        return RatFun(self.num.shifted(q), self.den.shifted(q))


def of_poly(p):
    """Return the polynomial as a function."""
    return RatFun(p, constant(one()))


def of_ratio(q):
    """Return the number as a function."""
    return of_poly(constant(q))


def the_variable():
    """Return the function x."""
    return of_poly(variable())


def added(items):
    """Return the sum of a list or tuple of functions, 0 if it is empty."""
    found = of_ratio(zero())
    for f in items:
        found = found + f
    return found


def multiplied(items):
    """Return the product of a list or tuple of functions, 1 if it is empty."""
    found = of_ratio(one())
    for f in items:
        found = found * f
    return found
