import unittest

from helpers import others
from test_replies import LINES
from indicial.console import Console
from indicial.errors import Malformed, NoText, Refused
from indicial.log import first_wrong, read_log, write_log
from indicial.replies import Reply, is_right, reply_to
from indicial.sheet import full_text, read_line

SHEET = (
    "# a sheet", "let op = x*D - 1", "let of = 1/x", "solve op", "let both = op*(D + of)", "apply both ; x^2", "", "let op = op - 1", "solve op ; of ; x",
    "equal both ; op", "let bad = 1/0", "solve bad", "products 2*op + 1", "divide both ; op", "multiple op ; D - of", "solve both", "let of = of^2", "apply D ; of",
    "let xx = opp", "common both ; D + of", "solve op ; D")


def filled(lines, **named):
    console = Console(**named)
    for line in lines:
        console.enter(line)
    return console


class Entering(unittest.TestCase):
    def test_word_by_word(self):
        console = Console()
        names = {}
        entries = []
        for line in SHEET:
            expected = reply_to(names, line)
            reply = console.enter(line)
            self.assertEqual(reply, expected)
            entries.append((line, expected))
            if line.startswith("let") and expected.kind == "done":
                _, name, full = read_line(names, line)
                names[name] = full
            self.assertEqual(console.names(), names)
            self.assertEqual(list(console), entries)
            self.assertEqual(len(console), len(entries))
        self.assertEqual(console.log(), write_log(entries))
        self.assertEqual(first_wrong(entries), -1)
        self.assertEqual(read_log(console.log()), entries)

    def test_definitions(self):
        console = Console()
        self.assertEqual(console.names(), {})
        console.enter("let op = x*D")
        console.enter("let both = op + op")
        self.assertEqual(console.names(), {"op": "x*D", "both": "(x*D) + (x*D)"})
        # The full text of a definition is made when its line is read.
        console.enter("let op = D")
        self.assertEqual(console.names(), {"op": "D", "both": "(x*D) + (x*D)"})
        self.assertEqual(console.enter("apply both ; x").text, "2*x")
        console.enter("  let   op=   op*op  ")
        self.assertEqual(console.names()["op"], "(D)*(D)")
        for line in ("let op = 1/0", "let op = abc", "let op =", "let op = x*", "let x = D", "solve op", "# let op = x", "", "let op = " + "x" * 2000):
            console.enter(line)
            self.assertEqual(console.names(), {"op": "(D)*(D)", "both": "(x*D) + (x*D)"})

    def test_names_that_begin_alike(self):
        console = filled(("let ab = 1", "let abc = 2", "let abcd = 3"))
        self.assertEqual(console.enter("apply abc*abcd ; ab").text, "6")
        self.assertEqual(console.enter("apply ab*abcd ; abc").text, "6")
        self.assertEqual(console.enter("apply abcde ; ab").text, "refused name")

    def test_dicts_of_names_are_new(self):
        console = filled(("let op = D",))
        console.names()["op"] = "x"
        console.names()["of"] = "x"
        self.assertEqual(console.names(), {"op": "D"})
        self.assertIsNot(console.names(), console.names())
        self.assertEqual(console.enter("apply op ; x^2").text, "2*x")

    def test_the_greatest_number_of_lines(self):
        console = Console(most=3)
        for line in ("let op = D", "bad", ""):
            console.enter(line)
        entries, names, log = list(console), console.names(), console.log()
        for line in ("", "let op = x", "solve D", None):
            with self.assertRaises(Refused) as held:
                console.enter(line)
            self.assertEqual(held.exception.reason, "lines")
            self.assertEqual((list(console), console.names(), console.log(), len(console)), (entries, names, log, 3))
        with self.assertRaises(Refused):
            Console(most=0).enter("")
        console = Console()
        for _ in range(1000):
            console.enter("")
        with self.assertRaises(Refused) as held:
            console.enter("")
        self.assertEqual((held.exception.reason, len(console)), ("lines", 1000))

    def test_two_consoles_share_nothing(self):
        one, two = Console(), Console()
        one.enter("let op = D")
        self.assertEqual((two.names(), list(two), len(two), two.log()), ({}, [], 0, ""))
        two.enter("let op = x")
        self.assertEqual((one.names(), two.names()), ({"op": "D"}, {"op": "x"}))

    def test_the_empty_log(self):
        self.assertEqual(Console().log(), "")
        self.assertEqual(read_log(Console().log()), [])
        self.assertEqual(first_wrong(list(Console())), -1)

    def test_other_letters(self):
        console = filled(("let op = t*D - 1", "solve op", "products 2*t*D - 1", "solve x"), name="t")
        self.assertEqual([reply.text for _, reply in console], ["", "[t]", "t^(1/2) : [1]", "text 6"])
        self.assertEqual(first_wrong(list(console), name="t"), -1)
        self.assertEqual(read_log(console.log()), list(console))

    def test_values_that_are_no_lines(self):
        console = Console()
        for value in others() + ["a\nb", "%", "x" * 2001]:
            if value != "":
                self.assertEqual(console.enter(value), Reply("error", "text 0"))
        self.assertEqual(first_wrong(list(console)), -1)
        # What has no written form: a line that is no string, or has a line feed.
        with self.assertRaises(Malformed):
            console.log()
        console = filled(("%", "x" * 2001))
        self.assertEqual(read_log(console.log()), list(console))


class Replacing(unittest.TestCase):
    def test_full_texts_in_place_of_names(self):
        console = filled(SHEET)
        names, lines = {}, []
        for line in SHEET:
            try:
                parts = read_line(names, line)
            except (NoText, Refused):
                lines.append(None)
                continue
            if parts[0] == "let":
                names[parts[1]] = parts[2]
                lines.append("")
            elif parts[0] == "empty":
                lines.append(line)
            else:
                word, _, rest = line.partition(" ")
                lines.append(word + " " + " ; ".join(full_text(names, text.strip()) for text in rest.split(";")))
        other = Console()
        for line, full, (_, reply) in zip(SHEET, lines, console):
            if full is not None:
                self.assertEqual(other.enter(full), reply, line)
        self.assertEqual(other.names(), {})

    def test_lines_left_out(self):
        entries = list(filled(SHEET))
        for skipped in range(2, 5):
            kept = [(line, reply) for at, (line, reply) in enumerate(entries) if line.startswith("let") or at % skipped]
            console = filled([line for line, _ in kept])
            self.assertEqual(list(console), kept)


class Example(unittest.TestCase):
    def test_interface(self):
        console = Console()
        self.assertEqual(console.enter("let op = x*D - 1").kind, "done")
        self.assertEqual(list(console), [("let op = x*D - 1", Reply("done", "", ()))])

    def test_all_entries_are_right(self):
        console = filled([line for line, _, _ in LINES])
        names = {}
        for line, reply in console:
            self.assertIs(is_right(names, (line, reply)), True)
            if line.startswith("let ab"):
                names = {"ab": "x*D - 1"}
        self.assertEqual(console.names(), {"ab": "x*D - 1"})


if __name__ == "__main__":
    unittest.main()
