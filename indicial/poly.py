"""Polynomials in x with rational coefficients."""

from math import lcm

from indicial.errors import ZeroDivisor
from indicial.integers import (
    content, long_division, power_of, row_derivative, row_product, row_sum, row_value)
from indicial.ratio import Ratio, common_form, one, zero


class Poly:
    """A polynomial; `row` is the tuple of the coefficients, the constant first."""

    def __init__(self, row):
        found = [item if isinstance(item, Ratio) else Ratio(item) for item in row]
        while len(found) > 0 and found[-1].is_zero():
            found.pop()
        self.row = tuple(found)
        # The same as integers over their least common denominator: arithmetic uses these.
        numbers, below = common_form(found)
        self._numbers = tuple(numbers)
        self._below = below

    def __add__(self, other):
        below = lcm(self._below, other._below)
        left = below // self._below
        right = below // other._below
        return of_numbers(row_sum(self._numbers, left, other._numbers, right), below)

    def __sub__(self, other):
        below = lcm(self._below, other._below)
        left = below // self._below
        right = below // other._below
        return of_numbers(row_sum(self._numbers, left, other._numbers, -right), below)

    def __mul__(self, other):
        return of_numbers(row_product(self._numbers, other._numbers), self._below * other._below)

    def __neg__(self):
        return of_numbers([-n for n in self._numbers], self._below)

    def __floordiv__(self, other):
        return self.divided_by(other)[0]

    def __mod__(self, other):
        return self.divided_by(other)[1]

    def __eq__(self, other):
        return isinstance(other, Poly) and self._numbers == other._numbers and self._below == other._below

    def __call__(self, a):
        scale = power_of(a.d, max(self.degree(), 0), 1)
        return Ratio(row_value(self._numbers, a.n, a.d), scale * self._below)

    def __iter__(self):
        return iter(self.row)

    def degree(self):
        """Return the degree, -1 for zero."""
        return len(self.row) - 1

    def is_zero(self):
        """Return True for zero."""
        return len(self.row) == 0

    def last(self):
        """Return the last coefficient."""
        if self.is_zero():
            raise ZeroDivisor("zero has no last coefficient")
        return self.row[-1]

    def coefficient(self, k):
        """Return the coefficient of the power k, zero outside the row."""
        if 0 <= k < len(self.row):
            return self.row[k]
        return zero()

    def terms(self):
        """Yield the pairs of exponents and coefficients that are not zero, ascending."""
        for k, number in enumerate(self.row):
            if not number.is_zero():
                yield k, number

    def scaled(self, r):
        """Return the polynomial times a number."""
        return of_numbers([n * r.n for n in self._numbers], self._below * r.d)

    def power(self, k):
        """Return the power with an exponent from 0 on."""
        return power_of(self, k, constant(one()))

    def monic(self):
        """Return the polynomial divided by its last coefficient; zero for zero."""
        if self.is_zero():
            return self
        return of_numbers(self._numbers, self._numbers[-1])

    def derivative(self):
        """Return the derivative."""
        return of_numbers(row_derivative(self._numbers), self._below)

    def shifted(self, a):
        """Return the polynomial of x + a."""
        size = len(self._numbers)
        scales = powers(a.d, size)
        # With x = y / a.d, times a power of a.d, the shift is one by an integer.
        row = [n * scales[size - 1 - k] for k, n in enumerate(self._numbers)]
        row = [n * scale for n, scale in zip(shifted_row(row, a.n), scales)]
        return of_numbers(row, self._below * power_of(a.d, max(self.degree(), 0), 1))

    def turned(self, n):
        """Return x^n times the polynomial of 1/x, for n of at least the degree."""
        return Poly([self.coefficient(n - k) for k in range(n + 1)])

    def divides(self, q):
        """Return True if q is this polynomial times another one."""
        if self.is_zero():
            return q.is_zero()
        return (q % self).is_zero()

    def primitive(self):
        """Return (r, numbers): the polynomial is r times that of the numbers, which are coprime."""
        if self.is_zero():
            raise ZeroDivisor("zero has no primitive part")
        share = content(self._numbers)
        if self._numbers[-1] < 0:
            share = -share
        return Ratio(share, self._below), tuple([n // share for n in self._numbers])

    def divided_by(self, other):
        """Return the pair of quotient and remainder."""
        if other.is_zero():
            raise ZeroDivisor("a division by the polynomial zero")
        quotient, rest, scale = long_division(self._numbers, other._numbers)
        below = scale * self._below
        return of_numbers([n * other._below for n in quotient], below), of_numbers(rest, below)


def of_numbers(numbers, below):
    """Return the polynomial with these integers, divided by `below`, as its coefficients."""
    return Poly([Ratio(n, below) for n in numbers])


def powers(n, count):
    """Return the list of the first powers of an integer, from n^0 on."""
    found = []
    power = 1
    for _ in range(count):
        found.append(power)
        power = power * n
    return found


def shifted_row(row, s):
    """Return the row of the polynomial of x + s, for a row of integers and an integer s."""
    found = list(row)
    for low in range(len(found) - 1):
        for k in range(len(found) - 2, low - 1, -1):
            found[k] = found[k] + s * found[k + 1]
    return found


def constant(r):
    """Return the polynomial r."""
    return Poly((r,))


def variable():
    """Return the polynomial x."""
    return Poly((0, 1))


def monomial(r, k):
    """Return the polynomial r x^k."""
    return Poly([0 for _ in range(k)] + [r])


def product(polys):
    """Return the product of a list or tuple of polynomials, 1 if it is empty."""
    found = constant(one())
    for p in polys:
        found = found * p
    return found
