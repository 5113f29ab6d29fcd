"""Kernels of matrices with few items in each row: a row is a dict from its columns to numbers."""

from math import gcd

from indicial.integers import content, inverse_modulo
from indicial.ratio import Ratio, common_form, one, total, zero

# A prime: independent columns modulo it are independent.
PRIME = 2305843009213693951


def kernel_of(rows, width):
    """Return a basis of the vectors of the length `width` whose product with each row is 0."""
    wholes = [whole_row(row) for row in rows]
    if rank_modulo(wholes, PRIME) == width:
        return []
    tops = {}
    for row in wholes:
        rest = row
        while len(rest) > 0 and min(rest) in tops:
            rest = cancelled(rest, tops[min(rest)], min(rest))
        if len(rest) > 0:
            tops[min(rest)] = rest
    free = [column for column in range(width) if column not in tops]
    return [kernel_vector(tops, column, width) for column in free]


def rank_modulo(rows, m):
    """Return the rank of rows of integers modulo a prime."""
    tops = {}
    for row in rows:
        rest = modulo(row, 1, m)
        while len(rest) > 0 and min(rest) in tops:
            rest = cancelled_modulo(rest, tops[min(rest)], min(rest), m)
        if len(rest) > 0:
            tops[min(rest)] = modulo(rest, inverse_modulo(rest[min(rest)], m), m)
    return len(tops)


def modulo(row, scale, m):
    """Return the row times a number modulo m, without zeros."""
    found = {column: n * scale % m for column, n in row.items()}
    return {column: n for column, n in found.items() if n != 0}


def cancelled_modulo(row, top, column, m):
    """Return the row less a multiple of `top`, which has 1 in this column, without an item in it."""
    take = row[column]
    found = {at: n for at, n in row.items()}
    for at, n in top.items():
        found[at] = (found.get(at, 0) - take * n) % m
    return {at: n for at, n in found.items() if n != 0}


def whole_row(row):
    """Return a multiple of the row, with coprime integers, without zeros."""
    kept = [(column, number) for column, number in row.items() if not number.is_zero()]
    numbers = common_form([number for _, number in kept])[0]
    return without_content({column: n for (column, _), n in zip(kept, numbers)})


def without_content(row):
    """Return the row of integers divided by the greatest common divisor of its items."""
    share = content(list(row.values()))
    if share <= 1:
        return row
    return {column: n // share for column, n in row.items()}


def cancelled(row, top, column):
    """Return a multiple of the row plus a multiple of `top` without an item in this column."""
    common = gcd(row[column], top[column])
    keep = top[column] // common
    take = row[column] // common
    found = {at: keep * n for at, n in row.items()}
    for at, n in top.items():
        found[at] = found.get(at, 0) - take * n
    return without_content({at: n for at, n in found.items() if n != 0})


def kernel_vector(tops, column, width):
    """Return the vector of the kernel with 1 in this free column and 0 in all other free ones."""
    found = [zero() for _ in range(width)]
    found[column] = one()
    for pivot in sorted(tops, reverse=True):
        if pivot < column:
            row = tops[pivot]
            known = total([found[at] * Ratio(n) for at, n in row.items() if at != pivot])
            found[pivot] = known.over(Ratio(-row[pivot]))
    return tuple(found)
