import random
import re
import string
import unittest
from fractions import Fraction

from helpers import X, fun, functions_of, operator, others, poly, ratio, some_function, some_operator, some_poly, vector
from indicial.errors import Malformed, NoText
from indicial.linear import Matrix
from indicial.operator import Operator
from indicial.packing import packed, read_data, unpacked, written
from indicial.papers import make_paper
from indicial.poly import Poly
from indicial.products import PowerProduct
from indicial.ratio import Ratio
from indicial.replies import Reply
from indicial.spaces import Space

# The question mark stands for a tuple that has been crossed out.
LEAF = r"(?:0|-?[1-9][0-9]*|[a-z]{1,12}|\?)"


def nested(depth, inside=()):
    """A value around which there are this many tuples."""
    for _ in range(depth):
        inside = (inside,)
    return inside


def some_data(source, depth):
    if depth == 0 or source.random() < 0.4:
        if source.random() < 0.5:
            return source.choice((0, 1, -1, 7, 10, -203, source.randint(-10 ** 30, 10 ** 30)))
        return "".join(source.choice(string.ascii_lowercase) for _ in range(source.randint(1, 12)))
    return tuple(some_data(source, depth - 1) for _ in range(source.randint(0, 4)))


def is_written(text):
    """Written forms, told by crossing out innermost tuples."""
    depth, most = 0, 0
    if "?" in text:
        return False
    for here in text:
        depth += (here == "(") - (here == ")")
        most = max(most, depth)
    before = None
    while text != before:
        before = text
        text = re.sub(rf"\((?:{LEAF}(?: {LEAF})*)?\)", "?", text)
    return most <= 60 and re.fullmatch(LEAF, text) is not None


def is_beginning(text):
    """Beginnings of written forms: they can be completed by an item and closing parentheses."""
    count = max(0, text.count("(") - text.count(")"))
    return any(is_written(text + item + ")" * count) for item in ("", "1"))


def place_of_error(text):
    """Where point 12.8 is broken first, None for a written form."""
    if is_written(text):
        return None
    return next((at for at in range(len(text)) if not is_beginning(text[:at + 1])), len(text))


class Packing(unittest.TestCase):
    def both(self, value, data):
        found = packed(value)
        self.assertEqual(found, data)
        self.assertIs(type(found), tuple)
        back = unpacked(data)
        self.assertEqual(back, value)
        self.assertIs(type(back), type(value))

    def test_word_by_word(self):
        half = ("r", 1, 2)
        x = ("p", ("r", 0, 1), ("r", 1, 1))
        unit = ("p", ("r", 1, 1))
        self.both(ratio(Fraction(-3, 4)), ("r", -3, 4))
        self.both(Ratio(0), ("r", 0, 1))
        self.both(poly(Fraction(1, 2), 0, -1), ("p", half, ("r", 0, 1), ("r", -1, 1)))
        self.both(Poly(()), ("p",))
        self.both(fun((0, 1)), ("f", x, unit))
        self.both(fun((0,)), ("f", ("p",), unit))
        self.both(fun((1,), (0, 1)), ("f", unit, x))
        self.both(operator("x*D - 1"), ("o", ("f", ("p", ("r", -1, 1)), unit), ("f", x, unit)))
        self.both(Operator(()), ("o",))
        self.both(PowerProduct([(Ratio(-1), Ratio(1, 2))]), ("e", ("t", ("r", -1, 1), half)))
        self.both(PowerProduct(()), ("e",))
        self.both(Space(()), ("s", 1, 0))
        self.both(Space((), size=3, sides=2), ("s", 3, 2))
        self.both(Space([(functions_of("1/x"), vector(2))], sides=1),
                  ("s", 1, 1, ("t", ("t", ("f", ("p", half), x)), ("t", ("r", 1, 1)))))
        self.both((), ("t",))
        self.both(("rational", 3, (Ratio(1, 2), -7)), ("t", ("w", "rational"), ("i", 3), ("t", half, ("i", -7))))
        self.both(5, ("i", 5))
        self.both(-10 ** 50, ("i", -10 ** 50))
        self.both("a", ("w", "a"))
        self.both("abcdefghijkl", ("w", "abcdefghijkl"))
        self.both(("i", 5), ("t", ("w", "i"), ("i", 5)))

    def test_random_objects(self):
        source = random.Random(230)
        for _ in range(40):
            size, sides = source.randint(1, 2), source.randint(0, 2)
            pairs = [(tuple(some_function(source) for _ in range(size)), tuple(ratio(source.randint(-3, 3)) for _ in range(sides)))
                     for _ in range(source.randint(0, 3))]
            value = (some_poly(source, 3), some_function(source), some_operator(source, 2), Space(pairs, size=size, sides=sides),
                     PowerProduct([(ratio(source.randint(-2, 2)), Ratio(source.randint(-5, 5), 3)) for _ in range(3)]),
                     source.randint(-99, 99), "word", (), ((), (Ratio(1, 3),)))
            data = packed(value)
            self.assertEqual(data, ("t",) + tuple(packed(item) for item in value))
            self.assertEqual(unpacked(data), value)
            self.assertEqual(read_data(written(data)), data)

    def test_spaces_with_papers(self):
        for text, rights in (("x^2*D^2 + x*D - 1", ()), ("D", ("1/x", "1/x^2")), ("x*D - 20", ()), ("(x^2 - 2)*D + 6*x", ("x/(x^2 - 2)",))):
            found = make_paper(operator(text), functions_of(*rights))
            self.assertEqual(unpacked(read_data(written(packed(found)))), found)

    def test_values_without_a_packed_form(self):
        values = [True, False, None, [], [1], "", "A", "a b", "abcdefghijklm", "a1", "\u00e9", "1", b"a", {}, Matrix((), 0), Reply("done"),
                  (1, True), (None,), ((), [1]), ("w", "A"), ("x" * 13,), 1.5]
        for value in values:
            with self.assertRaises(Malformed, msg=value):
                packed(value)

    def test_depth(self):
        self.assertEqual(packed(nested(59)), nested_form(59))
        self.assertEqual(unpacked(packed(nested(59))), nested(59))
        self.assertEqual(unpacked(packed(nested(59, 7))), nested(59, 7))
        for value in (nested(60), nested(60, 7), nested(61), nested(60, "a"), nested(5000), nested(60, Ratio(1)), nested(59, Poly((1,))),
                      nested(58, fun((1,))), nested(56, Space([(functions_of("1"), ())]))):
            with self.assertRaises(Malformed):
                packed(value)
        for value in (nested(59, Ratio(1)), nested(58, Poly((1,))), nested(59, Poly(())), nested(57, fun((1,))), nested(59, Space(())),
                      nested(54, Space([(functions_of("1"), ())]))):
            self.assertEqual(unpacked(packed(value)), value)
            self.assertEqual(read_data(written(packed(value))), packed(value))
        self.assertEqual(deepest(packed(nested(54, Space([(functions_of("1"), ())])))), 60)


def nested_form(depth):
    data = ("t",)
    for _ in range(depth):
        data = ("t", data)
    return data


def deepest(data):
    if not isinstance(data, tuple):
        return 0
    return 1 + max([deepest(item) for item in data], default=0)


class Unpacking(unittest.TestCase):
    def test_data_that_are_no_packed_form(self):
        one, zero, unit = ("r", 1, 1), ("r", 0, 1), ("p", ("r", 1, 1))
        x = ("p", zero, one)
        f = ("f", unit, unit)
        values = [
            0, 5, "r", "word", (), (5,), ((),), ("a",), ("q", 1), ("word", 1), (1, 2), (("r",), 1, 2),
            ("r",), ("r", 1), ("r", 1, 0), ("r", 2, 4), ("r", 1, -2), ("r", 0, 2), ("r", 1, 2, 3), ("r", "a", 1), ("r", (), 1), ("r", one, 1),
            ("r", True, 1), ("r", 1, True), ("r", 0, 0),
            ("p", 1), ("p", zero), ("p", one, zero), ("p", ("r", 2, 4)), ("p", ("i", 1)), ("p", ("w", "a")), ("p", unit), ("p", ("t",)),
            ("f",), ("f", unit), ("f", unit, ("p",)), ("f", unit, unit, unit), ("f", x, x), ("f", unit, ("p", ("r", 2, 1))), ("f", one, one),
            ("f", ("p",), x), ("f", f, f), ("f", unit, 1), ("f", 1, unit), ("f", unit, ("t",)),
            ("o", unit), ("o", f, ("f", ("p",), unit)), ("o", one), ("o", 1),
            ("e", one), ("e", ("t", one)), ("e", ("t", zero, one)), ("e", ("t", zero, ("r", 3, 2))), ("e", ("t", zero, ("r", -1, 2))),
            ("e", ("t", one, ("r", 1, 2)), ("t", zero, ("r", 1, 2))), ("e", ("t", zero, ("r", 1, 4)), ("t", zero, ("r", 1, 4))),
            ("e", ("t", zero, ("i", 1))), ("e", ("t", zero, ("r", 1, 2), one)), ("e", 1), ("e", ("e",)),
            ("s",), ("s", 1), ("s", 0, 0), ("s", 1, -1), ("s", "a", 0), ("s", 1, ()), ("s", True, 0), ("s", 1, False), ("s", ("i", 1), ("i", 0)),
            ("s", 1, 0, 5), ("s", 1, 0, f), ("s", 1, 0, ("t", ("t", f), ("t", one))), ("s", 1, 0, ("t", ("t", ("f", ("p",), unit)), ("t",))),
            ("s", 1, 0, ("t", ("t", ("f", ("p", ("r", 2, 1)), unit)), ("t",))), ("s", 1, 0, ("t", ("t", unit), ("t",))),
            ("s", 1, 0, ("t", ("t", f), ("t",)), ("t", ("t", ("f", x, unit)), ("t",))), ("s", 1, 0, ("t", f, ("t",))),
            ("s", 2, 0, ("t", ("t", f), ("t",))), ("s", 1, 0, ("t", ("t", f))), ("s", 1, 0, ("t", ("t", f), ("t",), ("t",))),
            ("t", 1), ("t", "a"), ("t", ()), ("t", ("i",)), ("t", ("i", 1), 2),
            ("i",), ("i", "a"), ("i", True), ("i", 1, 2), ("i", ("i", 1)), ("i", ()), ("w",), ("w", 1), ("w", "A"), ("w", ""), ("w", "a", "b"),
            ("w", "abcdefghijklm"), ["i", 1], ("t", ["i", 1]), None, True, [], ("i", None), "", "Word", Ratio(1), X, ("r", Ratio(1), 1),
            nested_form(60), nested_form(5000), nested(5000)]
        for value in values + others():
            with self.assertRaises(Malformed, msg=value):
                unpacked(value)

    def test_great_numbers_in_spaces(self):
        space = unpacked(("s", 10 ** 30, 10 ** 30))
        self.assertEqual((space.size, space.sides, len(space)), (10 ** 30, 10 ** 30, 0))

    def test_changed_data(self):
        # Whatever can be unpacked packs to the same data.
        source = random.Random(231)
        data = packed(make_paper(operator("D"), functions_of("1/x", "1/x^2")))
        kept = 0
        for _ in range(400):
            other = changed(source, data)
            try:
                found = unpacked(other)
            except Malformed:
                continue
            kept += 1
            self.assertEqual(packed(found), other)
        self.assertTrue(kept > 20)


def changed(source, data):
    """The data with a change at one place."""
    if not isinstance(data, tuple) or source.random() < 0.15:
        return source.choice((0, 1, 2, -1, "t", "r", "p", ("r", 1, 2), ("t",), ("i", 1)))
    at = source.randrange(len(data))
    if source.random() < 0.1:
        return data[:at] + data[at + 1:]
    return data[:at] + (changed(source, data[at]),) + data[at + 1:]


class Written(unittest.TestCase):
    def test_examples(self):
        for data, text in ((0, "0"), (-12, "-12"), ("abc", "abc"), ((), "()"), ((1,), "(1)"), (("r", -1, 2), "(r -1 2)"),
                           (((), ("a", ()), 0), "(() (a ()) 0)"), (10 ** 30, "1" + "0" * 30), ("abcdefghijkl", "abcdefghijkl")):
            self.assertEqual(written(data), text)
            self.assertEqual(read_data(text), data)

    def test_round_trip(self):
        source = random.Random(232)
        for _ in range(200):
            data = some_data(source, 4)
            text = written(data)
            self.assertTrue(is_written(text))
            self.assertEqual(read_data(text), data)

    def test_great_integers(self):
        for digits in (4299, 4301, 10000):
            text = "7" * digits
            self.assertEqual(written(read_data(text)), text)
            self.assertEqual(written((read_data("-" + text),)), f"(-{text})")

    def test_other_values(self):
        for value in [True, False, None, [], "", "A", "a b", "abcdefghijklm", Ratio(1), X, (1, [2]), (1, True), ((None,),), ("-",), b"a", 1.0, Space(())]:
            with self.assertRaises(Malformed, msg=value):
                written(value)

    def test_depth(self):
        for depth in (1, 59, 60):
            self.assertEqual(written(nested(depth - 1)), "(" * depth + ")" * depth)
            self.assertEqual(read_data("(" * depth + ")" * depth), nested(depth - 1))
            self.assertEqual(read_data(written(nested(depth, 5))), nested(depth, 5))
        for data in (nested(60), nested(61, 5), nested(5000)):
            with self.assertRaises(Malformed):
                written(data)


class Reading(unittest.TestCase):
    def check(self, text):
        expected = place_of_error(text)
        if expected is None:
            self.assertEqual(written(read_data(text)), text)
            return
        with self.assertRaises(NoText, msg=text) as held:
            read_data(text)
        self.assertEqual(held.exception.at, expected, repr(text))

    def test_positions(self):
        for text, at in (("", 0), ("-", 1), ("-0", 1), ("00", 1), ("01", 1), ("1a", 1), ("a1", 1), ("aB", 1), ("A", 0), (" ", 0), (" 1", 0), ("1 ", 1),
                         ("(", 1), ("(1", 2), ("(1 ", 3), ("( 1)", 1), ("(1  2)", 3), ("(1 )", 3), ("()x", 2), ("() ", 2), (")", 0), ("(1))", 3),
                         ("(1,2)", 2), ("(a b", 4), ("abcdefghijklm", 12), ("(abcdefghijklm)", 13), ("1 2", 1), ("--1", 1), ("+1", 0), ("1.5", 1),
                         ("(()", 3), ("()()", 2), ("(-)", 2), ("\u0661", 0), ("1\u0661", 1), ("a\u00e9", 1), ("1\n", 1), ("(1\t2)", 2), ("a-", 1)):
            with self.assertRaises(NoText, msg=text) as held:
                read_data(text)
            self.assertEqual(held.exception.at, at, text)
            self.check(text)

    def test_changed_texts(self):
        source = random.Random(233)
        for _ in range(1500):
            text = written(some_data(source, 3))
            for _ in range(source.randint(1, 2)):
                at = source.randint(0, len(text))
                kind = source.randint(0, 2)
                more = source.choice("()  -01a9zA,")
                text = text[:at] + (more if kind else "") + text[at + (kind != 1):]
            self.check(text)

    def test_all_short_texts(self):
        texts = [""]
        for _ in range(5):
            texts = [text + here for text in texts for here in "( )a0-"]
            for text in texts:
                self.check(text)

    def test_depth(self):
        for depth in (60, 61, 62, 100, 20000):
            text = "(" * depth + ")" * depth
            if depth > 60:
                with self.assertRaises(NoText) as held:
                    read_data(text)
                self.assertEqual(held.exception.at, 60)
        with self.assertRaises(NoText) as held:
            read_data("(1 " * 60 + "(")
        self.assertEqual(held.exception.at, 180)
        with self.assertRaises(NoText) as held:
            read_data("(" * 60)
        self.assertEqual(held.exception.at, 60)
        self.assertEqual(read_data("(" + "(()) " * 100 + "1)")[-1], 1)

    def test_other_values(self):
        for value in others() + [b"1", ("1",), ["1"]]:
            if not isinstance(value, str):
                with self.assertRaises(NoText) as held:
                    read_data(value)
                self.assertEqual(held.exception.at, 0)


if __name__ == "__main__":
    unittest.main()
