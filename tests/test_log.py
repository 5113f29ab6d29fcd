import random
import unittest

from helpers import X, functions_of, operator, others, vector
from test_packing import nested
from test_replies import LINES
from indicial.console import Console
from indicial.errors import Malformed, NoText
from indicial.log import first_wrong, read_log, write_log
from indicial.packing import packed, written
from indicial.papers import make_paper
from indicial.ratio import Ratio
from indicial.replies import Reply, reply_to
from indicial.spaces import Space


def some_console(**named):
    console = Console(**named)
    console.enter("let op = x*D - 1")
    console.enter("let of = 1/x")
    for line, _, _ in LINES:
        console.enter(line)
    return console


class Writing(unittest.TestCase):
    def test_word_by_word(self):
        entries = list(some_console())
        expected = ""
        for line, reply in entries:
            expected += "> " + line + "\n" + "= " + reply.kind + " " + reply.text + "\n" + "# " + written(packed(reply.data)) + "\n"
        self.assertEqual(write_log(entries), expected)

    def test_examples(self):
        self.assertEqual(write_log([]), "")
        self.assertEqual(write_log([("", Reply("done"))]), "> \n= done \n# (t)\n")
        self.assertEqual(write_log([("apply D ; x", reply_to({}, "apply D ; x"))]),
                         "> apply D ; x\n= function 1\n# (t (f (p (r 1 1)) (p (r 1 1))))\n")
        self.assertEqual(write_log([("a > b", Reply("kind", "# =", ("w", 5, ())))]), "> a > b\n= kind # =\n# (t (w w) (i 5) (t))\n")

    def test_items_that_are_no_entries(self):
        good = ("", Reply("done"))
        values = others() + [
            ["", Reply("done")], ("", Reply("done"), 1), ("",), (None, Reply("done")), (5, Reply("done")), ("a\nb", Reply("done")), ("\n", Reply("done")),
            ("", ("done", "", ())), ("", None), (Reply("done"), ""), ("", Reply("Done")), ("", Reply("")), ("", Reply("a b")), ("", Reply("abcdefghijklm")),
            ("", Reply(None)), ("", Reply(5)), ("", Reply("done\n")), ("", Reply("done", "a\nb")), ("", Reply("done", None)), ("", Reply("done", 5)),
            ("", Reply("done", "", [])), ("", Reply("done", "", None)), ("", Reply("done", "", 5)), ("", Reply("done", "", "word")), ("", Reply("done", "", Ratio(1))),
            ("", Reply("done", "", (True,))), ("", Reply("done", "", (None,))), ("", Reply("done", "", ([],))), ("", Reply("done", "", ("A",))),
            ("", Reply("done", "", nested(60))), ("", Reply("done", "", (Reply("done"),))), (b"", Reply("done"))]
        for value in values:
            for entries in ([value], [good, value], [value, good]):
                with self.assertRaises(Malformed, msg=value):
                    write_log(entries)
        self.assertEqual(read_log(write_log([("", Reply("done", "", nested(59)))]))[0][1].data, nested(59))


class Reading(unittest.TestCase):
    def refused(self, text, at):
        with self.assertRaises(NoText, msg=text) as held:
            read_log(text)
        self.assertEqual(held.exception.at, at, repr(text))

    def test_round_trip(self):
        for named in ({}, {"name": "t"}):
            console = some_console(**named)
            entries = list(console)
            self.assertEqual(read_log(write_log(entries)), entries)
            self.assertIs(type(read_log(console.log())), list)
            self.assertTrue(all(type(entry) is tuple and type(entry[1]) is Reply for entry in read_log(console.log())))
        self.assertEqual(read_log(""), [])
        entries = [("\r\t\u00e9 \x85\u2028", Reply("abcdefghijkl", " \r = \u2028", ("rational", 10 ** 5000, Space((), size=2))))]
        self.assertEqual(read_log(write_log(entries)), entries)

    def test_places(self):
        good = "> \n= done \n# (t)\n"
        self.assertEqual(read_log(good * 2), [("", Reply("done"))] * 2)
        for text, at in (
                ("\n", 0), ("x", 0), (">", 0), ("> ", 0), (">\n", 0), (">a\n", 0), (" > \n", 0), ("= done \n", 0), ("> \n", 1), ("> \n= done ", 1), ("> \n= done \n", 2),
                ("> \n= done \n# (t)", 2), ("> \n> \n", 1), ("> \n= done\n# (t)\n", 1), ("> \n=done \n# (t)\n", 1), ("> \n= Done \n# (t)\n", 1), ("> \n=  \n# (t)\n", 1),
                ("> \n= abcdefghijklm \n# (t)\n", 1), ("> \n= don3 \n# (t)\n", 1), ("> \n= done \n# \n", 2), ("> \n= done \n#(t)\n", 2), ("> \n= done \n# (t) \n", 2),
                ("> \n= done \n# (i 5)\n", 2), ("> \n= done \n# 5\n", 2), ("> \n= done \n# ()\n", 2), ("> \n= done \n# (t 5)\n", 2), ("> \n= done \n# (r 1 1)\n", 2),
                ("> \n= done \n# (t (r 2 4))\n", 2), ("> \n= done \n# (t\n", 2), ("> \n= done \n# t\n", 2), ("> \n= done \n\n", 2), ("> \n\n= done \n# (t)\n", 1),
                ("> \n= done \n# (s 1 0)\n", 2), ("> \n= done \n> \n", 2), ("> \nx\nx\nx", 1), ("> \n= done \nx\nx", 2)):
            self.refused(text, at)
            self.refused(good + text, at + 3)
            self.refused(good * 4 + text, at + 12)
        self.refused(good + "\n" + good, 3)
        self.refused(good[:-1] + good, 2)
        self.refused(good + "x\n" + "y", 3)

    def test_spoilt_logs(self):
        # Every change of one character gives another log, or none.
        source = random.Random(250)
        text = some_console().log()
        entries = read_log(text)
        for _ in range(150):
            at = source.randrange(len(text))
            other = text[:at] + source.choice("x (1\n>=#tr") + text[at + 1:]
            try:
                found = read_log(other)
            except NoText as error:
                self.assertTrue(0 <= error.at <= other.count("\n"))
                # The whole entries in front of the place are read.
                whole = "".join(line + "\n" for line in other.split("\n")[:error.at // 3 * 3])
                self.assertEqual(write_log(read_log(whole)), whole)
                continue
            self.assertEqual(write_log(found), other)
            self.assertEqual(found == entries, other == text)

    def test_other_values(self):
        for value in others() + [b"", list(some_console())]:
            if not isinstance(value, str):
                self.refused(value, 0)


class FirstWrong(unittest.TestCase):
    def test_logs_of_consoles(self):
        for named in ({}, {"name": "t"}):
            console = some_console(**named)
            self.assertEqual(first_wrong(list(console), **named), -1)
            self.assertEqual(first_wrong(read_log(console.log()), **named), -1)
        self.assertEqual(first_wrong([]), -1)
        self.assertNotEqual(first_wrong(list(some_console()), name="t"), -1)

    def test_one_changed_entry(self):
        entries = list(some_console())
        for at in range(len(entries)):
            line, reply = entries[at]
            for other in (line, Reply("done", "x")), (line, Reply(reply.kind, reply.text + " ", reply.data)), None, (line, reply, reply):
                self.assertEqual(first_wrong(entries[:at] + [other] + entries[at + 1:]), at)

    def test_the_first_of_several(self):
        entries = list(some_console())
        wrong = ("", Reply("error"))
        self.assertEqual(first_wrong([entries[0], wrong, entries[1], wrong]), 1)
        self.assertEqual(first_wrong([wrong]), 0)
        self.assertEqual(first_wrong(others()), 0)

    def test_definitions(self):
        entries = [("let op = x*D - 1", Reply("done")), ("solve op", reply_to({}, "solve x*D - 1")), ("let op = D", Reply("done")),
                   ("solve op", reply_to({}, "solve D"))]
        self.assertEqual(first_wrong(entries), -1)
        self.assertEqual(first_wrong(entries[1:]), 0)
        self.assertEqual(first_wrong(entries[:1] + entries[2:]), -1)
        self.assertEqual(first_wrong(entries[:2] + entries[3:]), 2)
        self.assertEqual(first_wrong(entries + entries[1:2]), 4)
        # A `let` line that is refused defines nothing.
        refused = [("let op = 1/0", Reply("error", "refused zero")), ("solve op", Reply("error", "refused name"))]
        self.assertEqual(first_wrong(refused), -1)
        self.assertEqual(first_wrong([("let op = 1/0", Reply("done"))]), 0)
        self.assertEqual(first_wrong([("let op = 1/0", Reply("error", "refused zero")), ("let op = x", Reply("done")), ("apply op ; x", reply_to({}, "apply x ; x"))]), -1)

    def test_spaces_with_other_papers(self):
        paper = ("rational", ((X, 0),), 2, (0, 2), (vector(-1, 0, 0), vector(0, 0, 1)))
        space = Space([(functions_of("x"), ())])
        self.assertEqual(first_wrong([("solve x*D - 1", Reply("space", "[x]", (space, paper)))]), -1)
        self.assertEqual(first_wrong([("solve x*D - 1", Reply("space", "[x]", make_paper(operator("x*D - 1"))))]), -1)
        self.assertEqual(first_wrong([("solve x*D - 1", Reply("space", "0", (Space(()), paper)))]), 0)


if __name__ == "__main__":
    unittest.main()
