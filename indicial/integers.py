"""Integers of any size, and rows of integers: coefficients of polynomials, the constant first.

A row of a polynomial other than zero does not end with 0. No function changes its arguments.
"""

from math import gcd

# Python refuses to write or read integers of several thousand digits at once.
DIGITS = 64
PART = 10 ** 64

# Primes: in the fields modulo them a greatest common divisor is found fast. The last one is 2^9689 - 1.
FIELDS = (
    (1 << 61) - 1, (1 << 521) - 1, (1 << 2203) - 1,
    (1 << 3000) * (1 << 3000) * (1 << 3000) * (1 << 689) - 1)


def decimal(n):
    """Return the decimal digits of an integer, with a minus sign in front if it is negative."""
    rest = abs(n)
    parts = []
    while rest >= PART:
        rest, part = divmod(rest, PART)
        parts.append(str(part).zfill(DIGITS))
    parts.append(str(rest))
    if n < 0:
        parts.append("-")
    return "".join(parts[::-1])


def number_of(digits):
    """Return the integer with these decimal digits, a string that is not empty."""
    parts = [int(digits[max(0, end - DIGITS):end]) for end in range(len(digits), 0, -DIGITS)]
    base = PART
    while len(parts) > 1:
        if len(parts) % 2 == 1:
            parts.append(0)
        parts = [parts[k] + base * parts[k + 1] for k in range(0, len(parts), 2)]
        base = base * base
    return parts[0]


def power_of(base, k, unit):
    """Return the product of k factors `base`, `unit` for k = 0; for everything that has a product."""
    found = unit
    while k > 0:
        if k % 2 == 1:
            found = found * base
        k = k // 2
        if k > 0:
            base = base * base
    return found


def trimmed(row):
    """Return the row without the zeros at its end."""
    size = len(row)
    while size > 0 and row[size - 1] == 0:
        size = size - 1
    return row[:size]


def content(row):
    """Return the greatest common divisor of the items, 0 if there is none but zeros."""
    found = 0
    for n in row:
        found = gcd(found, n)
        if found == 1:
            return found
    return found


def primitive_row(row):
    """Return the row divided by its content, the last item made positive."""
    if len(row) == 0:
        return []
    share = content(row)
    if row[-1] < 0:
        share = -share
    return [n // share for n in row]


def row_sum(a, left, b, right):
    """Return the list `left` times a plus `right` times b, as long as the longer one."""
    if len(a) < len(b):
        a, left, b, right = b, right, a, left
    found = [left * n for n in a]
    for k, n in enumerate(b):
        found[k] = found[k] + right * n
    return found


def row_product(a, b):
    """Return the product of two rows."""
    found = [0 for _ in range(len(a) + len(b) - 1)]
    for i, n in enumerate(a):
        if n != 0:
            for j, m in enumerate(b):
                found[i + j] = found[i + j] + n * m
    return trimmed(found)


def row_derivative(row):
    """Return the derivative of a row."""
    return [k * row[k] for k in range(1, len(row))]


def row_value(row, s, t):
    """Return the value at s / t, multiplied by t to the power of the degree."""
    found = 0
    scale = 1
    for n in row[::-1]:
        found = found * s + n * scale
        scale = scale * t
    return found


def long_division(a, b):
    """Return (quotient, rest, scale): `scale` times a is `quotient` times b plus `rest`.

    The scale is no greater than the division step by step needs; it is 1 if b is primitive
    and divides a.
    """
    rest = list(a)
    quotient = [0 for _ in range(len(a) - len(b) + 1)]
    scale = 1
    last = b[-1]
    for at in range(len(a) - len(b), -1, -1):
        factor = abs(last) // gcd(rest[-1], last)
        if factor != 1:
            rest = [factor * n for n in rest]
            quotient = [factor * n for n in quotient]
            scale = scale * factor
        share = rest[-1] // last
        quotient[at] = share
        if share != 0:
            for k in range(len(b) - 1):
                rest[at + k] = rest[at + k] - share * b[k]
        rest.pop()
    return quotient, trimmed(rest), scale


def inverse_modulo(n, m):
    """Return the number from 0 to m - 1 that is inverse to n modulo m, for coprime n and m."""
    low, high = m, n % m
    before, found = 0, 1
    while high > 1:
        share = low // high
        low, high = high, low - share * high
        before, found = found, before - share * found
    return found % m


def monic_modulo(row, m):
    """Return the row modulo the prime m, divided by its last item."""
    inverse = inverse_modulo(row[-1], m)
    return [n * inverse % m for n in row]


def remainder_modulo(a, b, m):
    """Return the remainder of a by b modulo m; the last item of b is 1."""
    rest = list(a)
    for at in range(len(a) - len(b), -1, -1):
        share = rest[-1]
        if share != 0:
            for k in range(len(b) - 1):
                rest[at + k] = (rest[at + k] - share * b[k]) % m
        rest.pop()
    return trimmed(rest)


def divisor_modulo(a, b, m):
    """Return the greatest common divisor modulo the prime m, its last item 1; a is not zero there."""
    a = trimmed([n % m for n in a])
    b = trimmed([n % m for n in b])
    while len(b) > 0:
        b = monic_modulo(b, m)
        a, b = b, remainder_modulo(a, b, m)
    return monic_modulo(a, m)


def symmetric(n, m):
    """Return the number congruent to n modulo m with the least absolute value."""
    rest = n % m
    if 2 * rest > m:
        return rest - m
    return rest


def divides_row(a, b):
    """Return True if the primitive row a divides the primitive row b."""
    if len(a) > len(b) or b[-1] % a[-1] != 0:
        return False
    return len(long_division(b, a)[1]) == 0


def row_divisor(a, b):
    """Return the primitive greatest common divisor of two primitive rows other than zero.

    Modulo a prime that divides neither last item the divisor has at least the degree of the
    true one. So a common divisor of that degree is the true one.
    """
    for m in FIELDS:
        if a[-1] % m != 0 and b[-1] % m != 0:
            row = divisor_modulo(a, b, m)
            if len(row) == 1:
                return [1]
            scale = gcd(a[-1], b[-1])
            found = primitive_row([symmetric(scale * n, m) for n in row])
            if divides_row(found, a) and divides_row(found, b):
                return found
    return euclid_divisor(a, b)


def euclid_divisor(a, b):
    """Return the primitive greatest common divisor of two primitive rows by Euclid's algorithm."""
    while len(b) > 0:
        rest = long_division(a, b)[1]
        a, b = b, primitive_row(rest)
    return a
