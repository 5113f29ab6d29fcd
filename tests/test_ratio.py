import random
import unittest
from fractions import Fraction

from helpers import fraction, others, ratio
from indicial.errors import Fault, Malformed, NoText, Refused, ZeroDivisor
from indicial.ratio import Ratio, is_integer, one, read_ratio, total, zero

LONG = 10 ** 6000 + 7


def fields(number):
    return (number.n, number.d)


class Creation(unittest.TestCase):
    def test_lowest_terms_and_sign(self):
        self.assertEqual(fields(Ratio(6, 4)), (3, 2))
        self.assertEqual(fields(Ratio(-6, 4)), (-3, 2))
        self.assertEqual(fields(Ratio(6, -4)), (-3, 2))
        self.assertEqual(fields(Ratio(-6, -4)), (3, 2))
        self.assertEqual(fields(Ratio(7, -7)), (-1, 1))

    def test_zero(self):
        for d in (1, 5, -5, -1, 10 ** 50):
            self.assertEqual(fields(Ratio(0, d)), (0, 1))

    def test_default_denominator(self):
        self.assertEqual(fields(Ratio(-4)), (-4, 1))
        self.assertEqual(fields(Ratio(n=4, d=6)), (2, 3))

    def test_very_large_numbers(self):
        number = Ratio(LONG * 6, -LONG * 10 ** 400)
        self.assertEqual(fields(number), (-3, 5 * 10 ** 399))
        self.assertEqual(fields(Ratio(LONG, LONG + 1)), (LONG, LONG + 1))

    def test_zero_divisor(self):
        for n in (0, 1, -3):
            for caught in (ZeroDivisor, Fault, ValueError):
                with self.assertRaises(caught):
                    Ratio(n, 0)
        with self.assertRaises(ZeroDivisor) as held:
            Ratio(1, 0)
        for other in (Malformed, Refused, NoText):
            self.assertNotIsInstance(held.exception, other)

    def test_fields_are_plain_integers(self):
        number = Ratio(6, 3)
        self.assertIs(type(number.n), int)
        self.assertIs(type(number.d), int)


class Equality(unittest.TestCase):
    def test_same_value(self):
        self.assertTrue(Ratio(1, 2) == Ratio(2, 4))
        self.assertTrue(Ratio(0, -3) == Ratio(0))
        self.assertFalse(Ratio(1, 2) == Ratio(1, 3))
        self.assertFalse(Ratio(1, 2) == Ratio(-1, 2))
        self.assertFalse(Ratio(1, 2) == Ratio(3, 2))

    def test_other_values(self):
        for value in others():
            if not isinstance(value, Ratio):
                self.assertIs(Ratio(1) == value, False)
                self.assertIs(Ratio(0) == value, False)
        self.assertFalse(Ratio(3) == 3)
        self.assertFalse(Ratio(1, 2) == (1, 2))
        self.assertFalse(Ratio(1, 2) == "1/2")
        self.assertIs(Ratio(1) == Ratio(1), True)


class Arithmetic(unittest.TestCase):
    def setUp(self):
        self.numbers = [Fraction(n, d) for n in range(-4, 5) for d in (1, 2, 3, 6)]

    def test_sum_difference_product_quotient(self):
        for a in self.numbers:
            for b in self.numbers:
                left, right = ratio(a), ratio(b)
                self.assertEqual(fraction(left + right), a + b)
                self.assertEqual(fraction(left - right), a - b)
                self.assertEqual(fraction(left * right), a * b)
                if b:
                    self.assertEqual(fraction(left.over(right)), a / b)
                self.assertEqual(left.compare(right), (a > b) - (a < b))
                self.assertEqual((fields(left), fields(right)), (fields(ratio(a)), fields(ratio(b))))

    def test_results_are_in_lowest_terms(self):
        for number in (Ratio(1, 6) + Ratio(1, 3), Ratio(1, 2) - Ratio(-1, 2), Ratio(2, 3) * Ratio(3, 2),
                       Ratio(-1, 2).over(Ratio(-1, 4)), Ratio(-2, 3).inverse()):
            other = Fraction(number.n, number.d)
            self.assertEqual(fields(number), (other.numerator, other.denominator))

    def test_one_argument(self):
        for a in self.numbers:
            number = ratio(a)
            self.assertEqual(fraction(-number), -a)
            self.assertEqual(number.sign(), (a > 0) - (a < 0))
            self.assertEqual(number.floor(), a.numerator // a.denominator)
            self.assertIs(number.whole, a.denominator == 1)
            self.assertIs(number.is_zero(), a == 0)
            if a:
                self.assertEqual(fraction(number.inverse()), 1 / a)
            self.assertEqual(fields(number), (a.numerator, a.denominator))

    def test_floor_of_negative_fractions(self):
        self.assertEqual(Ratio(-1, 2).floor(), -1)
        self.assertEqual(Ratio(-7, 2).floor(), -4)
        self.assertEqual(Ratio(-4).floor(), -4)
        self.assertEqual(Ratio(7, 2).floor(), 3)
        self.assertIs(type(Ratio(7, 2).floor()), int)

    def test_sign_of_large_numbers(self):
        self.assertEqual([Ratio(n * LONG, 3).sign() for n in (-1, 0, 1)], [-1, 0, 1])
        self.assertEqual(Ratio(LONG, LONG + 1).compare(Ratio(LONG + 1, LONG + 2)), -1)

    def test_power(self):
        for a in self.numbers:
            for k in range(-4, 6):
                if a or k >= 0:
                    self.assertEqual(fraction(ratio(a).power(k)), a ** k)
        self.assertEqual(fields(Ratio(0).power(0)), (1, 1))
        self.assertEqual(fields(Ratio(0).power(3)), (0, 1))
        self.assertEqual(fields(Ratio(-2, 3).power(-3)), (-27, 8))
        self.assertEqual(fields(Ratio(-2, 3).power(333)), (-2 ** 333, 3 ** 333))

    def test_zero_divisors(self):
        for k in (-1, -2, -7):
            with self.assertRaises(ZeroDivisor):
                Ratio(0).power(k)
        with self.assertRaises(ZeroDivisor):
            Ratio(0).inverse()
        for n in (0, 3):
            with self.assertRaises(ZeroDivisor):
                Ratio(n).over(Ratio(0))

    def test_random_numbers(self):
        source = random.Random(5)
        for _ in range(200):
            a = Fraction(source.randint(-10 ** 40, 10 ** 40), source.randint(1, 10 ** 30))
            b = Fraction(source.randint(-10 ** 40, 10 ** 40), source.randint(1, 10 ** 30))
            self.assertEqual(fraction(ratio(a) + ratio(b)), a + b)
            self.assertEqual(fraction(ratio(a) - ratio(b)), a - b)
            self.assertEqual(fraction(ratio(a) * ratio(b)), a * b)


class Functions(unittest.TestCase):
    def test_zero_and_one(self):
        self.assertEqual(fields(zero()), (0, 1))
        self.assertEqual(fields(one()), (1, 1))

    def test_total(self):
        for kind in (list, tuple):
            self.assertEqual(fields(total(kind())), (0, 1))
            numbers = kind([Ratio(1, 2), Ratio(1, 3), Ratio(-5, 6), Ratio(7)])
            self.assertEqual(fields(total(numbers)), (7, 1))
            self.assertEqual(fields(total(kind([Ratio(-3, 4)]))), (-3, 4))
        numbers = [Ratio(1, 2), Ratio(1, 4)]
        total(numbers)
        self.assertEqual([fields(number) for number in numbers], [(1, 2), (1, 4)])

    def test_is_integer(self):
        for value in (0, -5, 7, 10 ** 50):
            self.assertIs(is_integer(value), True)
        for value in (True, False, None, "1", (), [], [1], Ratio(1), (1,)):
            self.assertIs(is_integer(value), False)


class WrittenForm(unittest.TestCase):
    def test_texts(self):
        for number, text in ((Ratio(0), "0"), (Ratio(5), "5"), (Ratio(-5), "-5"), (Ratio(1, 2), "1/2"),
                             (Ratio(-10, 4), "-5/2"), (Ratio(100), "100"), (Ratio(-7, 30), "-7/30")):
            self.assertEqual(str(number), text)
            self.assertEqual(fields(read_ratio(text)), fields(number))

    def test_there_and_back_with_many_digits(self):
        source = random.Random(11)
        for size in (1, 19, 63, 64, 65, 100, 127, 128, 129, 500, 640, 1000, 4299):
            for sign in (1, -1):
                n = sign * source.randint(10 ** (size - 1), 10 ** size - 1)
                d = source.randint(10 ** (size - 1), 10 ** size - 1)
                number = Ratio(n, d)
                text = f"{number.n}/{number.d}" if number.d != 1 else f"{number.n}"
                self.assertEqual(str(number), text)
                self.assertEqual(fields(read_ratio(text)), fields(number))

    def test_more_digits_than_python_writes_at_once(self):
        text = "1" + "0" * 5999 + "7"
        self.assertEqual(str(Ratio(LONG)), text)
        self.assertEqual(str(Ratio(-LONG, 2)), "-" + text + "/2")
        self.assertEqual(fields(read_ratio(text)), (LONG, 1))
        self.assertEqual(fields(read_ratio("-3/" + text)), (-3, LONG))
        digits = "9876543210" * 2000
        self.assertEqual(str(read_ratio(digits)), digits)
        self.assertEqual(str(read_ratio("-1/" + digits[:-1] + "1")), "-1/" + digits[:-1] + "1")

    def test_powers_of_ten(self):
        for k in (63, 64, 65, 127, 128, 192, 256):
            for n in (10 ** k - 1, 10 ** k, 10 ** k + 1):
                self.assertEqual(str(Ratio(n)), f"{n}")
                self.assertEqual(read_ratio(f"{n}").n, n)

    def assert_no_text(self, value):
        with self.assertRaises(NoText) as held:
            read_ratio(value)
        self.assertEqual(held.exception.at, 0)

    def test_wrong_texts(self):
        for text in ("", "-", "/", "1/", "/2", "-/2", "2/4", "3/3", "0/5", "0/1", "-0", "-0/3", "00", "01",
                     "-01", "1/02", "1/0", "1/1", "5/1", "-5/1", "1/-2", "-1/-2", "--1", "+1", "1/+2", " 1",
                     "1 ", "1 /2", "1/ 2", "1/2/3", "1//2", "1.5", "1e3", "x", "0x1", "1_000", "\n1", "1\n",
                     "\u0661", "1/\u0662", "\u00b2", "\uff11", "1\x00", "a/b", "10/4", "-6/9", "1,2"):
            self.assert_no_text(text)

    def test_long_wrong_texts(self):
        self.assert_no_text("0" + "1" * 5000)
        self.assert_no_text("2" + "0" * 5000 + "/4")
        self.assert_no_text("1" * 5000 + "x")

    def test_no_strings(self):
        for value in (None, True, False, 0, 5, (), [], ["1"], ("1",), Ratio(1), Ratio(1, 2)):
            self.assert_no_text(value)
        for value in others():
            if not isinstance(value, str):
                self.assert_no_text(value)


if __name__ == "__main__":
    unittest.main()
