"""Linear differential operators with rational functions as coefficients."""

from indicial.errors import Refused, ZeroDivisor
from indicial.integers import power_of
from indicial.ratfun import added, of_ratio
from indicial.ratio import one, zero


class Operator:
    """The sum of coefficients[i] D^i; the last coefficient is not zero."""

    def __init__(self, coefficients):
        found = list(coefficients)
        while len(found) > 0 and found[-1].is_zero():
            found.pop()
        self.coefficients = tuple(found)

    def __add__(self, other):
        size = max(len(self.coefficients), len(other.coefficients))
        return Operator([self[i] + other[i] for i in range(size)])

    def __sub__(self, other):
        size = max(len(self.coefficients), len(other.coefficients))
        return Operator([self[i] - other[i] for i in range(size)])

    def __neg__(self):
        return Operator([-f for f in self.coefficients])

    def __mul__(self, other):
        # D^i times the other operator follows from D^(i-1) times it.
        images = derived_list(other, len(self.coefficients))
        found = Operator(())
        for f, image in zip(self.coefficients, images):
            found = found + image.scaled(f)
        return found

    def __eq__(self, other):
        return isinstance(other, Operator) and self.coefficients == other.coefficients

    def __len__(self):
        return len(self.coefficients)

    def __getitem__(self, at):
        if at < len(self.coefficients):
            return self.coefficients[at]
        return of_ratio(zero())

    def __iter__(self):
        return iter(self.coefficients)

    def __call__(self, y):
        found = []
        for i, f in enumerate(self.coefficients):
            if i > 0:
                y = y.derivative()
            found.append(f * y)
        return added(found)

    def order(self):
        """Return the order, -1 for zero."""
        return len(self.coefficients) - 1

    def is_zero(self):
        """Return True for zero."""
        return len(self.coefficients) == 0

    def leading(self):
        """Return the last coefficient."""
        if self.is_zero():
            raise Refused("zero")
        return self.coefficients[-1]

    def monic(self):
        """Return the operator divided by its last coefficient from the left."""
        return self.scaled(self.leading().inverse())

    def scaled(self, f):
        """Return f times the operator."""
        return Operator([f * g for g in self.coefficients])

    def after(self, f):
        """Return the operator times f: it acts on y as the operator acts on f y."""
        return self * of_function(f)

    def power(self, k):
        """Return the power with an exponent from 0 on."""
        return power_of(self, k, of_function(of_ratio(one())))

    def divide(self, m):
        """Return (q, r) with this operator = q * m + r, r of a lower order than m."""
        if m.is_zero():
            raise ZeroDivisor("a division by the operator zero")
        images = derived_list(m, len(self) - m.order())
        rest = self
        quotient = []
        for image in images[::-1]:
            share = rest[image.order()] // m.leading()
            quotient.append(share)
            rest = rest - image.scaled(share)
        return Operator(quotient[::-1]), rest

    def adjoint(self):
        """Return the sum of the (-D)^i times the coefficients."""
        found = Operator(())
        for f in self.coefficients[::-1]:
            found = of_function(f) - derived(found)
        return found

    def moved(self, u):
        """Return the operator with D + u in place of D."""
        found = Operator(())
        power = of_function(of_ratio(one()))
        for i, f in enumerate(self.coefficients):
            if i > 0:
                power = derived(power) + power.scaled(u)
            found = found + power.scaled(f)
        return found


def derived(operator):
    """Return D times the operator."""
    found = [f.derivative() for f in operator.coefficients]
    return Operator(found) + Operator((of_ratio(zero()),) + operator.coefficients)


def derived_list(operator, count):
    """Return the list of the first D^i times the operator."""
    found = []
    for i in range(count):
        if i > 0:
            operator = derived(operator)
        found.append(operator)
    return found


def of_function(f):
    """Return the operator of order 0 (or zero) that multiplies by f."""
    return Operator((f,))


def derivation():
    """Return the operator D."""
    return Operator((of_ratio(zero()), of_ratio(one())))


def first_order(u):
    """Return the operator D - u."""
    return Operator((-u, of_ratio(one())))


def annihilator(y):
    """Return the operator D less the logarithmic derivative of y."""
    return first_order(y.log_derivative())
