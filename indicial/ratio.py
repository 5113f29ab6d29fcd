"""Rational numbers."""

from math import gcd, lcm

from indicial.errors import NoText, ZeroDivisor
from indicial.integers import decimal, number_of, power_of


class Ratio:
    """The rational number n / d, kept in lowest terms with d above 0."""

    def __init__(self, n, d=1):
        if d == 0:
            raise ZeroDivisor("the denominator is zero")
        common = gcd(n, d)
        if d < 0:
            common = -common
        self.n = n // common
        self.d = d // common

    def __add__(self, other):
        return Ratio(self.n * other.d + other.n * self.d, self.d * other.d)

    def __sub__(self, other):
        return Ratio(self.n * other.d - other.n * self.d, self.d * other.d)

    def __mul__(self, other):
        return Ratio(self.n * other.n, self.d * other.d)

    def __neg__(self):
        return Ratio(-self.n, self.d)

    def __eq__(self, other):
        return isinstance(other, Ratio) and self.n == other.n and self.d == other.d

    def __str__(self):
        if self.d == 1:
            return f"{decimal(self.n)}"
        return f"{decimal(self.n)}/{decimal(self.d)}"

    def inverse(self):
        """Return 1 divided by this number."""
        return Ratio(self.d, self.n)

    def over(self, other):
        """Return this number divided by another one."""
        return Ratio(self.n * other.d, self.d * other.n)

    def power(self, k):
        """Return the power with any integer as its exponent."""
        if k < 0:
            return self.inverse().power(-k)
        return Ratio(power_of(self.n, k, 1), power_of(self.d, k, 1))

    def compare(self, other):
        """Return -1, 0 or 1: less than, equal to or greater than the other number."""
        return (self - other).sign()

    def sign(self):
        """Return -1, 0 or 1."""
        if self.n < 0:
            return -1
        return min(self.n, 1)

    def floor(self):
        """Return the greatest integer that is not greater than this number."""
        return self.n // self.d

    @property
    def whole(self):
        """Tell whether this number is an integer."""
        return self.d == 1

    def is_zero(self):
        """Return True for zero."""
        return self.n == 0


def zero():
    """Return the number 0."""
    return Ratio(0)


def one():
    """Return the number 1."""
    return Ratio(1)


def total(numbers):
    """Return the sum of a list or tuple of numbers."""
    parts, below = common_form(numbers)
    return Ratio(sum(parts), below)


def common_form(numbers):
    """Return (parts, below): the numbers are the integers `parts` over the least `below`."""
    below = 1
    for number in numbers:
        if number.d != 1:
            below = lcm(below, number.d)
    return [number.n * (below // number.d) for number in numbers], below


def read_ratio(text):
    """Return the number with this written form."""
    if not isinstance(text, str):
        raise NoText(0)
    above, slash, below = text.partition("/")
    digits = above[1:] if above.startswith("-") else above
    if not is_count(digits) or (digits == "0" and text != "0"):
        raise NoText(0)
    if slash and (not is_count(below) or below in ("0", "1")):
        raise NoText(0)
    n = number_of(digits)
    d = number_of(below) if slash else 1
    if gcd(n, d) != 1:
        raise NoText(0)
    return Ratio(-n if above.startswith("-") else n, d)


def is_count(digits):
    """Return True for the decimal digits of an integer from 0 on, without leading zeros."""
    if not digits.isascii() or not digits.isdigit():
        return False
    return digits == "0" or not digits.startswith("0")


def is_integer(value):
    """Return True if the value is an integer and not True or False."""
    return isinstance(value, int) and not isinstance(value, bool)
