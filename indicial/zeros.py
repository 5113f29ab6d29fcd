"""The rational numbers v at which a polynomial in x and v is zero at a root of a polynomial in x.

The polynomial in x and v is given by its rows: row i is the factor of v^i, a polynomial in x. The
last row is not zero at any root of p.
"""

from math import gcd

from indicial.divisor import common_divisor
from indicial.integers import divisor_modulo, trimmed
from indicial.poly import Poly, product
from indicial.ratio import Ratio, common_form
from indicial.roots import is_prime, rational_roots, resultant_in_v
from indicial.vectors import shared_divisor

# As many primes are asked whether there is a zero at all.
TRIES = 20
# Zeros are looked for first among numbers with at most this denominator and this absolute value.
DENOMINATOR = 12
SIZE = 60


def shared_zeros(p, rows):
    """Return the rational v at which the sum of the rows times v^i is zero at a root of p, ascending."""
    found = []
    pieces = [(p, rows)]
    while len(pieces) > 0:
        place, part = pieces.pop()
        divisor, part = without_common_zeros([row % place for row in part])
        found = found + list(rational_roots(divisor))
        residues = zeros_modulo(place, part)
        # A prime without a zero shows that there is none; this settles most places.
        if len(part) > 1 and all([len(zeros) > 0 for _, zeros in residues]):
            factors = factors_of(place, part, residues)
            pieces = pieces + [(factor, part) for factor in factors]
            if len(factors) == 0:
                found = found + list(rational_roots(resultant_in_v(place, part)))
    return ascending(found)


def factors_of(p, rows, residues):
    """Return factors of p with the product p, or [] if no way to split it is found.

    The roots of one of them are rational, or zeros of the polynomial at the same v.
    """
    points = rational_roots(p)
    inside = [Poly((-c, 1)) for c in points]
    if len(points) > 0:
        outside = p // product(inside)
        return inside + [outside] if outside.degree() > 0 else inside
    for v in candidates(residues):
        common = common_divisor(value_at(rows, v), p)
        if common.degree() > 0:
            return [common, p // common]
    return []


def candidates(residues):
    """Return the numbers of moderate size that are zeros modulo each of the primes."""
    found = []
    for below in range(1, DENOMINATOR + 1):
        for above in range(-SIZE * below, SIZE * below + 1):
            if gcd(above, below) == 1 and all([has_residue(above, below, pair) for pair in residues]):
                found.append(Ratio(above, below))
    return found


def has_residue(above, below, pair):
    """Return True if above / below is congruent to a zero modulo the prime of the pair."""
    prime, zeros = pair
    return any([(above - below * v) % prime == 0 for v in zeros])


def value_at(rows, v):
    """Return the sum of the rows times v^i."""
    found = Poly(())
    for row in rows[::-1]:
        found = found.scaled(v) + row
    return found


def without_common_zeros(rows):
    """Return (divisor, rows): the polynomial in v that divides it for every x, and the quotient."""
    count = max([row.degree() for row in rows]) + 1
    columns = [Poly([row.coefficient(k) for row in rows]) for k in range(count)]
    divisor = shared_divisor(columns)
    columns = [p // divisor for p in columns]
    size = len(rows) - divisor.degree()
    return divisor, [Poly([p.coefficient(i) for p in columns]) for i in range(size)]


def ascending(numbers):
    """Return the tuple of the numbers in ascending order, each once."""
    parts, below = common_form(numbers)
    return tuple([Ratio(n, below) for n in sorted(set(parts))])


def zeros_modulo(p, rows):
    """Return the pairs of some primes and the residues of v with a zero, up to one without zeros.

    Where neither p loses its degree nor the last row is zero at a root of p, each rational v has a
    residue modulo the prime, at which the polynomial is zero there, too.
    """
    place = p.primitive()[1]
    numbers = common_form([number for row in rows for number in row.row])[0]
    wholes = []
    for row in rows:
        wholes.append(numbers[:len(row.row)])
        numbers = numbers[len(row.row):]
    found = []
    prime = 2
    while len(found) < TRIES and (len(found) == 0 or len(found[-1][1]) > 0):
        if is_prime(prime) and are_coprime(wholes[-1], place, prime):
            zeros = [v for v in range(prime) if has_zero(place, wholes, v, prime)]
            found.append((prime, zeros))
        prime = prime + 1
    return found


def are_coprime(row, place, m):
    """Return True if the place keeps its degree modulo the prime m and shares no root with the row."""
    return place[-1] % m != 0 and len(divisor_modulo(place, row, m)) == 1


def has_zero(place, rows, v, m):
    """Return True if the sum of the rows times v^i is zero at a root of the place modulo m."""
    found = []
    for row in rows[::-1]:
        longer = found + [0 for _ in range(len(row) - len(found))]
        found = [n * v for n in longer]
        for k, n in enumerate(row):
            found[k] = (found[k] + n) % m
    return len(divisor_modulo(place, trimmed(found), m)) > 1
