"""Linear equations over the rational numbers.

Elimination works on rows of integers without a common divisor: it is faster than with fractions,
and the numbers stay as small as the determinants that they are.
"""

from math import gcd

from indicial.integers import content
from indicial.ratio import Ratio, common_form, one, zero


def dot(a, b):
    """Return the product of two vectors of the same length."""
    left, below = common_form(a)
    right, under = common_form(b)
    return Ratio(sum([n * m for n, m in zip(left, right)]), below * under)


def combine(rows, width, weights):
    """Return the sum of the rows multiplied by the weights, a vector of the length `width`."""
    found = [zero() for _ in range(width)]
    for row, weight in zip(rows, weights):
        if not weight.is_zero():
            found = [item + weight * more for item, more in zip(found, row)]
    return tuple(found)


class Matrix:
    """A tuple of rows, vectors of the length `width`."""

    def __init__(self, rows, width):
        self.rows = tuple([tuple(row) for row in rows])
        self.width = width

    def __len__(self):
        return len(self.rows)

    def __eq__(self, other):
        return isinstance(other, Matrix) and self.width == other.width and self.rows == other.rows

    def __iter__(self):
        return iter(self.rows)

    def transposed(self):
        """Return the matrix of the columns."""
        columns = [[row[k] for row in self.rows] for k in range(self.width)]
        return Matrix(columns, len(self.rows))

    def times(self, x):
        """Return the vector of the products of the rows with x."""
        return tuple([dot(row, x) for row in self.rows])

    def reduced(self):
        """Return (r, pivots): the reduced matrix with the same span, and its pivots."""
        rows, pivots = eliminated([common_form(row)[0] for row in self.rows], self.width)
        found = [[Ratio(n, row[pivot]) for n in row] for row, pivot in zip(rows, pivots)]
        return Matrix(found, self.width), tuple(pivots)

    def rank(self):
        """Return the number of independent rows."""
        return len(eliminated([common_form(row)[0] for row in self.rows], self.width)[1])

    def kernel(self):
        """Return a basis of the vectors whose product with each row is 0, one for each free column."""
        matrix, pivots = self.reduced()
        free = [column for column in range(self.width) if column not in pivots]
        return tuple([kernel_vector(matrix, pivots, column) for column in free])

    def solve(self, right):
        """Return ("solution", x), or ("none", y) with a vector y that shows that there is none."""
        matrix, pivots = self.beside([(item,) for item in right], 1).reduced()
        if self.width in pivots:
            # What adds the rows up to zeros, and the right side to 1, solves a system itself.
            columns = Matrix(self.transposed().rows + (tuple(right),), len(self.rows))
            return "none", columns.solve(unit_vector(self.width, self.width + 1))[1]
        found = [zero() for _ in range(self.width)]
        for row, pivot in zip(matrix.rows, pivots):
            found[pivot] = row[-1]
        return "solution", tuple(found)

    def shows_none(self, right, y):
        """Return True if y adds the rows up to zeros and the right side to 1."""
        if not is_vector(y, len(self.rows)):
            return False
        return are_zeros(combine(self.rows, self.width, y)) and dot(y, right) == one()

    def duals(self):
        """Return a tuple of duals, or None if the rows are dependent."""
        matrix, pivots = self.beside_unit().reduced()
        if any([pivot >= self.width for pivot in pivots]):
            return None
        return tuple([self.dual(matrix, pivots, k) for k in range(len(self.rows))])

    def dual(self, matrix, pivots, k):
        """Return the dual at index k, read from the reduced rows beside their combinations."""
        found = [zero() for _ in range(self.width)]
        for row, pivot in zip(matrix.rows, pivots):
            found[pivot] = row[self.width + k]
        return tuple(found)

    def dependence(self):
        """Return weights, not all zero, that combine the rows to zeros, or None if there are none."""
        matrix, pivots = self.beside_unit().reduced()
        for row, pivot in zip(matrix.rows, pivots):
            if pivot >= self.width:
                return row[self.width:]
        return None

    def beside(self, columns, count):
        """Return the matrix with `count` more columns, given by a list of tuples, one for each row."""
        rows = [row + more for row, more in zip(self.rows, columns)]
        return Matrix(rows, self.width + count)

    def beside_unit(self):
        """Return the matrix beside the unit matrix: elimination shows there how it combines rows."""
        count = len(self.rows)
        return self.beside([unit_vector(k, count) for k in range(count)], count)


def shows_independent(rows, width, duals):
    """Return True if `duals` is a tuple of duals for the rows."""
    if not isinstance(duals, tuple) or len(duals) != len(rows):
        return False
    if not all([is_vector(dual, width) for dual in duals]):
        return False
    count = len(rows)
    products = [tuple([dot(dual, row) for row in rows]) for dual in duals]
    return products == [unit_vector(k, count) for k in range(count)]


def is_vector(value, length):
    """Return True if the value is a tuple of that many numbers."""
    if not isinstance(value, tuple) or len(value) != length:
        return False
    return all([isinstance(item, Ratio) for item in value])


def unit_vector(at, length):
    """Return the vector with 1 at one index and 0 elsewhere."""
    return tuple([Ratio(1 if k == at else 0) for k in range(length)])


def are_zeros(vector):
    """Return True if all items are zero."""
    return all([item.is_zero() for item in vector])


def kernel_vector(matrix, pivots, column):
    """Return the vector of the kernel of a reduced matrix that has 1 at this free column."""
    found = list(unit_vector(column, matrix.width))
    for row, pivot in zip(matrix.rows, pivots):
        found[pivot] = -row[column]
    return tuple(found)


def eliminated(rows, width):
    """Return (chosen, pivots): rows of integers, multiples of the reduced ones, and the pivots."""
    rest = [without_content(row) for row in rows]
    chosen = []
    pivots = []
    for column in range(width):
        # The width may be great where there are few rows, or none.
        if len(rest) == 0:
            break
        at = first_with_item(rest, column)
        if at < len(rest):
            top = rest[at]
            rest = [cancelled(row, top, column) for row in rest[:at] + rest[at + 1:]]
            chosen = [cancelled(row, top, column) for row in chosen] + [top]
            pivots.append(column)
    return chosen, pivots


def first_with_item(rows, column):
    """Return the index of the first row with an item that is not zero there, or their number."""
    for at, row in enumerate(rows):
        if row[column] != 0:
            return at
    return len(rows)


def cancelled(row, top, column):
    """Return a multiple of the row plus a multiple of `top` that is 0 in the column of its pivot."""
    if row[column] == 0:
        return row
    common = gcd(row[column], top[column])
    keep = top[column] // common
    take = row[column] // common
    return without_content([keep * n - take * m for n, m in zip(row, top)])


def without_content(row):
    """Return the row divided by the greatest common divisor of its items."""
    share = content(row)
    if share <= 1:
        return row
    return [n // share for n in row]
