"""Systems of equations of the first order."""

from indicial.errors import Malformed, Refused
from indicial.linear import combine, unit_vector
from indicial.operator import Operator
from indicial.ratfun import added, of_ratio
from indicial.ratio import one, zero
from indicial.spaces import Space, rational_space
from indicial.vectors import (
    chain_from, combination, companion_rows, reduced_by, times_rows, times_vector, unit_row)

# The greatest size of a system.
LARGEST = 6


def system_space(rows, rights=()):
    """Return the space of all solutions of a system."""
    refuse_other_sizes(rows, rights)
    return Space(solutions(rows, rights), size=len(rows), sides=len(rights))


def companion(operator):
    """Return the rows of the companion of an operator."""
    if not 1 <= operator.order() <= LARGEST:
        raise Refused("order")
    return tuple([tuple(row) for row in companion_rows(operator)])


def first_equation(rows, rights=()):
    """Return (operator, sides): the equation of the first component."""
    refuse_other_sizes(rows, rights)
    vectors, weights = chain_from(unit_row(0, len(rows)), rows)
    return equation_of(weights, chain_sides(vectors, rights))


def inverse_matrix(rows):
    """Return the rows of the inverse of a square matrix, or None if there is none."""
    entries = []
    for row in rows:
        pivot, polys = reduced_by(entries, row)
        if pivot < 0:
            return None
        entries.append((pivot, polys))
    size = len(rows)
    units = [reduced_by(entries, unit_row(k, size))[1] for k in range(size)]
    return tuple([tuple(combination(polys, size)) for polys in units])


def refuse_other_sizes(rows, rights):
    """Raise Malformed unless the rows are square, and the right sides as long."""
    size = len(rows)
    if not 1 <= size <= LARGEST:
        raise Malformed("a system has a size from 1 to 6")
    if any([len(row) != size for row in rows]) or any([len(right) != size for right in rights]):
        raise Malformed("the rows are not square, or a right side has another length")


def chain_sides(vectors, rights):
    """Return the lists of the w_(0,j), w_(1,j), .. for each right side, one more than vectors."""
    found = []
    for right in rights:
        row = [of_ratio(zero())]
        for vector in vectors:
            row.append(row[-1].derivative() + times_vector(vector, right))
        found.append(row)
    return found


def equation_of(weights, sides):
    """Return the operator and the right sides for the first component."""
    factors = [-f for f in weights] + [of_ratio(one())]
    return Operator(factors), tuple([times_vector(factors, row) for row in sides])


def solutions(rows, rights):
    """Return pairs that span the solutions of a system, also of one of the size 0."""
    size = len(rows)
    if size == 0:
        return [((), unit_vector(j, len(rights))) for j in range(len(rights))]
    vectors, weights = chain_from(unit_row(0, size), rows)
    sides = chain_sides(vectors, rights)
    operator, right_sides = equation_of(weights, sides)
    pairs = list(rational_space(operator, right_sides))
    fixed = [fixed_items(ys[0], numbers, sides, len(vectors)) for ys, numbers in pairs]
    places, inverse = completed(vectors, size)
    moved = [times_rows(rows[i], inverse, size) for i in places]
    known = [rest_side(moved, items, pair[1], places, rights) for items, pair in zip(fixed, pairs)]
    found = []
    for rest, ws in solutions([row[len(vectors):] for row in moved], known):
        items = weighted(fixed, ws, len(vectors)) + list(rest)
        numbers = combine([cs for _, cs in pairs], len(rights), ws)
        found.append((tuple([times_vector(row, items) for row in inverse]), numbers))
    return found


def fixed_items(y, cs, sides, count):
    """Return the products of the first vectors of the chain and a solution with the component y."""
    found = []
    for k in range(count):
        found.append(y - weighted_sum(cs, [row[k] for row in sides]))
        y = y.derivative()
    return found


def weighted_sum(numbers, functions):
    """Return the sum of the functions multiplied by the numbers."""
    return added([of_ratio(number) * f for number, f in zip(numbers, functions) if not number.is_zero()])


def weighted(lists, numbers, count):
    """Return the sum of lists of `count` functions multiplied by the numbers."""
    return [weighted_sum(numbers, [items[k] for items in lists]) for k in range(count)]


def completed(vectors, size):
    """Return (places, inverse): the unit rows that complete independent vectors, and the inverse."""
    entries = []
    for vector in vectors:
        entries.append(reduced_by(entries, vector))
    places = []
    for k in range(size):
        pivot, polys = reduced_by(entries, unit_row(k, size))
        if pivot >= 0:
            entries.append((pivot, polys))
            places.append(k)
    return places, inverse_matrix(vectors + [unit_row(k, size) for k in places])


def rest_side(moved, items, cs, places, rights):
    """Return the right side, for the components that are not fixed, of one pair of fixed items."""
    found = []
    for row, i in zip(moved, places):
        given = weighted_sum(cs, [right[i] for right in rights])
        found.append(times_vector(row[:len(items)], items) + given)
    return found
