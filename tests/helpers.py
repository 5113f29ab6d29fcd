"""What several test files use: short constructors, an oracle over Fraction, random arguments."""

from fractions import Fraction

from indicial.operator import Operator
from indicial.poly import Poly, constant, product
from indicial.ratfun import RatFun
from indicial.ratio import Ratio
from indicial.text import read_function, read_operator

X = Poly((0, 1))


def ratio(value):
    """The Ratio of a Fraction or an integer."""
    value = Fraction(value)
    return Ratio(value.numerator, value.denominator)


def fraction(number):
    return Fraction(number.n, number.d)


def vector(*items):
    return tuple(ratio(item) for item in items)


def poly(*row):
    """The polynomial with these coefficients (Fractions or integers), the constant first."""
    return Poly([ratio(item) for item in row])


def with_roots(*roots):
    return product([poly(-root, 1) for root in roots])


def fun(num, den=(1,)):
    """The function with these rows of coefficients."""
    return RatFun(poly(*num), poly(*den))


def fractions_of(p):
    return [fraction(number) for number in p.row]


def some_ratio(source, size=9):
    return Ratio(source.randint(-size, size), source.randint(1, size))


def some_poly(source, degree, size=9):
    """A polynomial of at most this degree, often of exactly this one."""
    return Poly([some_ratio(source, size) for _ in range(degree + 1)])


def some_nonzero(source, degree, size=9):
    while True:
        p = some_poly(source, degree, size)
        if not p.is_zero():
            return p


def some_function(source, degree=2):
    num = some_poly(source, source.randint(0, degree), 4)
    return RatFun(num, some_nonzero(source, source.randint(0, degree), 4))


def some_operator(source, order):
    return Operator([some_function(source, 1) for _ in range(order + 1)])


def others():
    """Values of other kinds, as for every value of the document."""
    return [0, 1, -1, "", "0", "1/2", True, False, None, [], (), [1], (1, 2), Ratio(5),
            (Ratio(1),), [Ratio(1)], constant(Ratio(1)), X, fun((1,)), Operator(()), ((),)]


def determinant(rows):
    """The determinant of rows of Fractions, by expansion along the first row."""
    if not rows:
        return Fraction(1)
    found = Fraction(0)
    for column, item in enumerate(rows[0]):
        if item:
            minor = [row[:column] + row[column + 1:] for row in rows[1:]]
            found += (-1) ** column * item * determinant(minor)
    return found


def operator(text):
    return read_operator(text)


def function(text):
    return read_function(text)


def functions_of(*texts):
    return tuple(read_function(text) for text in texts)


def polys_of(*texts):
    """The polynomials with these texts."""
    return tuple(read_function(text).num for text in texts)
