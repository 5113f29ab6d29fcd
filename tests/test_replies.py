import unittest
from unittest import mock

from helpers import X, function, functions_of, operator, others, poly, vector
from indicial import papers, replies, spaces
from indicial.checker import takes
from indicial.common import left_multiple, right_divisor
from indicial.console import Console
from indicial.linear import Matrix
from indicial.operator import Operator
from indicial.papers import make_paper
from indicial.products import PowerProduct, power_products
from indicial.ratio import Ratio
from indicial.replies import Reply, is_right, reply_to
from indicial.sheet import space_text
from indicial.spaces import Space

NAMES = {"op": "x*D - 1", "of": "1/x"}

# Lines of all kinds, with the kinds and texts of their replies.
LINES = (
    ("let ab = x*D - 1", "done", ""), ("", "done", ""), ("   ", "done", ""), ("# op", "done", ""),
    ("apply op ; x^2", "function", "x^2"), ("apply D ; of", "function", "-1/x^2"), ("apply 0 ; x", "function", "0"),
    ("multiply op ; op", "operator", "(x^2)*D^2 + (-x)*D + (1)"), ("multiply D ; x", "operator", "(x)*D + (1)"), ("multiply 0 ; D", "operator", "0"),
    ("divide D^2 ; D - x", "operators", "D + (x) , (x^2 + 1)"), ("divide op ; op", "operators", "(1) , 0"), ("divide 0 ; D", "operators", "0 , 0"),
    ("common D^2 - 1 ; D - 1", "operator", "D + (-1)"), ("common op ; D", "operator", "(1)"), ("common 0 ; 0", "operator", "0"),
    ("multiple D - 1 ; D", "operator", "D^2 + (-1)*D"), ("multiple D ; D", "operator", "D"),
    ("equal D*x ; x*D + 1", "equal", "yes"), ("equal D ; x*D", "equal", "no"), ("equal 0 ; D - D", "equal", "yes"),
    ("solve op", "space", "[x]"), ("solve D ; 1/x ; 1/x^2", "space", "[-1/x ; 0 ; 1] [1 ; 0 ; 0]"), ("solve D - 1", "space", "0"),
    ("solve x ; 1 ; of", "space", "[1/x ; 1 ; 0] [1/x^2 ; 0 ; 1]"), ("solve D ; 0", "space", "[0 ; 1] [1 ; 0]"),
    ("products 2*x*D - 1", "products", "x^(1/2) : [1]"), ("products x^2*D^2 - 2", "products", "1 : [x^2] [1/x]"), ("products D - 1", "products", ""),
    ("products (2*x*D - 1)*D", "products", "1 : [1] , x^(1/2) : [x]"), ("products (x + 1)*D - 1/2 - (x + 1)/(3*x)", "products", "(x + 1)^(1/2)*x^(1/3) : [1]"),
    ("solve", "error", "text 0"), ("apply op ; x x", "error", "text 11"), ("solve abc", "error", "refused name"), ("let abc = 1/0", "error", "refused zero"),
    ("multiply x/D ; D", "error", "refused operator"), ("solve D - D", "error", "refused zero"), ("products 0", "error", "refused zero"),
    ("solve 0 ; x", "error", "refused zero"), ("divide D ; 0", "error", "zero"), ("multiple 0 ; D", "error", "zero"), ("multiple D ; 0", "error", "zero"),
    ("let let = x", "error", "text 0"), ("x" * 2001, "error", "text 0"), ("solve 1" + "0" * 100, "error", "text 6"))


def data_of(line):
    """The data of point 12.4 for the lines above that have any."""
    op = operator("x*D - 1")
    return {
        "apply op ; x^2": functions_of("x^2"), "apply D ; of": functions_of("-1/x^2"), "apply 0 ; x": functions_of("0"),
        "multiply op ; op": (op * op,), "multiply D ; x": (operator("D*x"),), "multiply 0 ; D": (Operator(()),),
        "divide D^2 ; D - x": (operator("D + x"), operator("x^2 + 1")), "divide op ; op": (operator("1"), Operator(())),
        "divide 0 ; D": (Operator(()), Operator(())),
        "common D^2 - 1 ; D - 1": (right_divisor(operator("D^2 - 1"), operator("D - 1"))[0],), "common op ; D": (operator("1"),),
        "common 0 ; 0": (Operator(()),),
        "multiple D - 1 ; D": (left_multiple(operator("D - 1"), operator("D"))[0],), "multiple D ; D": (operator("D"),),
        "solve op": make_paper(op), "solve D ; 1/x ; 1/x^2": make_paper(operator("D"), functions_of("1/x", "1/x^2")),
        "solve D - 1": make_paper(operator("D - 1")), "solve x ; 1 ; of": make_paper(operator("x"), functions_of("1", "1/x")),
        "solve D ; 0": make_paper(operator("D"), functions_of("0")),
        "products 2*x*D - 1": power_products(operator("2*x*D - 1")), "products x^2*D^2 - 2": power_products(operator("x^2*D^2 - 2")),
        "products (2*x*D - 1)*D": power_products(operator("(2*x*D - 1)*D")),
        "products (x + 1)*D - 1/2 - (x + 1)/(3*x)": power_products(operator("(x + 1)*D - 1/2 - (x + 1)/(3*x)")),
    }.get(line, ())


class Replies(unittest.TestCase):
    def test_fields(self):
        reply = Reply("done")
        self.assertEqual((reply.kind, reply.text, reply.data), ("done", "", ()))
        reply = Reply("function", "x", functions_of("x"))
        self.assertEqual((reply.kind, reply.text, reply.data), ("function", "x", functions_of("x")))
        self.assertEqual(Reply("a", text="b", data=(1,)), Reply("a", "b", (1,)))

    def test_equality(self):
        reply = Reply("function", "x", functions_of("x"))
        self.assertTrue(reply == Reply("function", "x", functions_of("x")))
        for other in (Reply("space", "x", functions_of("x")), Reply("function", "x ", functions_of("x")), Reply("function", "x", functions_of("1")),
                      Reply("function", "x"), Reply("function", "x", list(functions_of("x")))):
            self.assertFalse(reply == other)
        for value in others() + [("function", "x", functions_of("x"))]:
            self.assertIs(reply == value, False)


class ReplyTo(unittest.TestCase):
    def test_each_kind(self):
        for line, kind, text in LINES:
            reply = reply_to(NAMES, line)
            self.assertEqual((reply.kind, reply.text), (kind, text), line)
            self.assertEqual(reply.data, data_of(line), line)
            self.assertIs(type(reply.data), tuple)
            self.assertEqual(reply == reply_to(NAMES, line), True)

    def test_all_words_are_there(self):
        words = {line.split()[0] for line, _, _ in LINES if line.strip() and line[0] != "#"}
        self.assertTrue(words >= {"let", "apply", "multiply", "divide", "common", "multiple", "equal", "solve", "products"})

    def test_values_that_are_no_lines(self):
        for value in others() + ["solve D\n", "% op", b"solve D"]:
            if value != "":
                self.assertEqual(reply_to(NAMES, value), Reply("error", "text 0"))

    def test_definitions_stay(self):
        names = {"op": "x*D - 1"}
        reply_to(names, "let op = D")
        reply_to(names, "let ab = op")
        self.assertEqual(names, {"op": "x*D - 1"})

    def test_papers_are_taken(self):
        for line, kind, _ in LINES:
            if kind == "space":
                space, paper = reply_to(NAMES, line).data
                parts = replies.read_line(NAMES, line)
                self.assertTrue(takes(parts[1], parts[2:], space, paper))

    def test_other_letters(self):
        for line, kind, text in LINES:
            if kind == "error" or "x" not in line:
                continue
            # The words keep their letters.
            word = line.split()[0]
            moved = word + line[len(word):].replace("x", "t")
            names = {name: full.replace("x", "t") for name, full in NAMES.items()}
            reply = reply_to(names, moved, name="t")
            self.assertEqual((reply.kind, reply.text, reply.data), (kind, text.replace("x", "t"), data_of(line)))
        self.assertEqual(reply_to({}, "products 2*t*D - 1 - 2*t/(t + 5)", name="t").text, "t^(1/2) : [t + 5]")
        self.assertEqual(reply_to({}, "solve x", name="t").text, "text 6")

    def test_examples(self):
        self.assertEqual(reply_to({"op": "x*D - 1"}, "solve op").text, "[x]")
        self.assertEqual(reply_to({}, "divide D^2 ; D - x").text, "D + (x) , (x^2 + 1)")
        self.assertEqual(Console().enter("let op = x*D - 1").kind, "done")


def spoilt(reply):
    """Replies that differ from one in one place."""
    kinds = ["done", "function", "operator", "operators", "equal", "space", "products", "error", "", "Done", None, 0, (reply.kind,)]
    found = [Reply(kind, reply.text, reply.data) for kind in kinds if kind != reply.kind]
    texts = [reply.text + " ", " " + reply.text, reply.text + "x", reply.text[:-1] + "~", None, 0, (reply.text,)]
    found += [Reply(reply.kind, text, reply.data) for text in texts]
    data = [reply.data + (0,), reply.data + ((),), list(reply.data), None, 0, "", (reply.data,), True, Ratio(0), reply]
    data += [reply.data[:at] + (other,) + reply.data[at + 1:] for at in range(len(reply.data))
             for other in (0, None, (), X, function("7*x^7 + 7"), operator("7*D^7 + 7"), Space([(functions_of("7*x^7 + 7"), ())]), PowerProduct(()))]
    data += [reply.data[:-1]] if len(reply.data) > 0 else []
    return found + [Reply(reply.kind, reply.text, other) for other in data]


class Right(unittest.TestCase):
    def test_replies_are_right(self):
        for line, _, _ in LINES:
            self.assertIs(is_right(NAMES, (line, reply_to(NAMES, line))), True, line)

    def test_entries_changed_in_one_place(self):
        for line, _, _ in LINES:
            reply = reply_to(NAMES, line)
            for other in spoilt(reply):
                self.assertIs(is_right(NAMES, (line, other)), False, (line, other.kind, other.text, other.data))

    def test_other_lines(self):
        for at, (line, kind, text) in enumerate(LINES):
            for other, other_kind, other_text in LINES[at + 1:]:
                if (kind, text) != (other_kind, other_text):
                    self.assertIs(is_right(NAMES, (other, reply_to(NAMES, line))), False, (line, other))

    def test_other_definitions(self):
        reply = reply_to(NAMES, "solve op")
        self.assertIs(is_right(NAMES, ("solve op", reply)), True)
        self.assertIs(is_right({"op": "x*D - 2"}, ("solve op", reply)), False)
        self.assertIs(is_right({}, ("solve op", reply)), False)
        self.assertIs(is_right({}, ("solve op", Reply("error", "refused name"))), True)
        self.assertIs(is_right({"op": "D - 1/x"}, ("solve op", reply)), True)

    def test_solve_lines(self):
        # Any space and paper that are taken are right: here one with a greater degree.
        paper = ("rational", (), 2, (0, 2), (vector(-1, 0, 0), vector(0, 0, 1)))
        space = Space([(functions_of("x"), ())])
        self.assertIs(takes(operator("x*D - 1"), (), space, paper), False)
        paper = ("rational", ((X, 0),), 2, (0, 2), (vector(-1, 0, 0), vector(0, 0, 1)))
        self.assertIs(takes(operator("x*D - 1"), (), space, paper), True)
        self.assertIs(is_right({}, ("solve x*D - 1", Reply("space", "[x]", (space, paper)))), True)
        self.assertIs(is_right({}, ("solve x*D - 1", Reply("space", "[x]", [space, paper]))), False)
        self.assertIs(is_right({}, ("solve x*D - 1", Reply("space", "[t]", (space, paper)))), False)
        self.assertIs(is_right({}, ("solve t*D - 1", Reply("space", "[t]", (space, paper))), name="t"), True)
        self.assertIs(is_right({}, ("solve t*D - 1", Reply("space", "[x]", (space, paper))), name="t"), False)
        self.assertIs(is_right({}, ("solve x*D - 1", Reply("space", "0", (Space(()), paper)))), False)
        self.assertIs(is_right({}, ("solve x*D - 1", Reply("space", "[x]", (space, paper, paper)))), False)
        self.assertIs(is_right({}, ("solve x*D - 1 ; 0", Reply("space", "[x]", (space, paper)))), False)

    def test_solve_lines_that_are_refused(self):
        space, paper = make_paper(operator("D"))
        for line, text in (("solve D - D", "refused zero"), ("solve", "text 0"), ("solve abc", "refused name"), ("solve D +", "text 6")):
            self.assertIs(is_right({}, (line, Reply("error", text))), True)
            self.assertIs(is_right({}, (line, Reply("space", space_text(space), (space, paper)))), False)

    def test_no_space_is_searched_for(self):
        entries = [(line, reply_to(NAMES, line)) for line, kind, _ in LINES if kind == "space"]

        def refuse(*arguments, **named):
            raise AssertionError("a search")

        with mock.patch.object(Matrix, "kernel", refuse), mock.patch.object(Matrix, "reduced", refuse), \
                mock.patch.object(Matrix, "solve", refuse), mock.patch.object(spaces, "space_over", refuse), \
                mock.patch.object(papers, "space_over", refuse), mock.patch.object(replies, "make_paper", refuse), \
                mock.patch.object(spaces, "rational_space", refuse), mock.patch.object(spaces, "kernel_of", refuse):
            for entry in entries:
                self.assertIs(is_right(NAMES, entry), True)
                self.assertIs(is_right(NAMES, (entry[0], Reply("space", "[x^7]", entry[1].data))), False)

    def test_values_that_are_no_lines(self):
        for value in others() + ["solve D\n", "% op"]:
            if value != "":
                self.assertIs(is_right(NAMES, (value, Reply("error", "text 0"))), True)
                self.assertIs(is_right(NAMES, (value, Reply("done"))), False)

    def test_every_value_of_an_entry(self):
        reply = reply_to({}, "")
        self.assertIs(is_right({}, ("", reply)), True)
        values = others() + [["", reply], ("", reply, reply), (reply, ""), ("",), reply, ("", None), ("", ("done", "", ())), ("", [reply]), (("", reply),),
                             ("", "done"), Console(), poly(1), ("", Reply), {}]
        for value in values:
            self.assertIs(is_right({}, value), False, value)
        # What is no reply is none to a line with solutions either.
        for value in others() + ["[1]", make_paper(operator("D")), ("space", "[1]", make_paper(operator("D")))]:
            self.assertIs(is_right({}, ("solve D", value)), False)
            self.assertIs(is_right({}, ("solve D", Reply("space", "[1]", value))), value == make_paper(operator("D")))


if __name__ == "__main__":
    unittest.main()
