"""What the document promises over the whole program: points 0.1 to 0.4."""

import random
import unittest

from helpers import function, functions_of, operator, ratio, some_function, some_operator, vector
from test_papers import some_equations
from test_replies import LINES
from indicial.checker import takes
from indicial.common import left_multiple
from indicial.console import Console
from indicial.log import first_wrong, read_log, write_log
from indicial.operator import annihilator
from indicial.packing import packed, unpacked, written
from indicial.papers import make_paper
from indicial.products import PowerProduct, candidates, power_products, solves
from indicial.ratfun import added, of_ratio
from indicial.ratio import Ratio
from indicial.replies import is_right, reply_to
from indicial.sheet import full_text, read_line, space_text
from indicial.spaces import Space, rational_space
from indicial.systems import companion, system_space


class MainFacts(unittest.TestCase):
    def test_pairs_are_solutions_and_solutions_are_pairs(self):
        source = random.Random(260)
        for op, rights in some_equations(261, 12):
            space = rational_space(op, rights)
            for (y,), cs in space:
                self.assertEqual(op(y), added([of_ratio(c) * g for c, g in zip(cs, rights)]))
            y, weight = some_function(source, 2), ratio(source.randint(-3, 3))
            # A right side made from a solution: with it, the solution belongs to the space.
            wider = rational_space(op, rights + (op(y),))
            self.assertIn(((y,), vector(*[0] * len(rights), 1)), wider)
            for ys, cs in space:
                pair = ((ys[0] + of_ratio(weight) * y,), cs + (weight,))
                self.assertIn(pair, wider)

    def test_all_solutions_of_planted_operators(self):
        source = random.Random(262)
        for _ in range(12):
            ys = [y for y in (some_function(source, 2) for _ in range(2)) if not y.is_zero()]
            op = operator("1")
            for y in ys:
                op = left_multiple(op, annihilator(y))[0]
            # Its order is the number of independent solutions.
            self.assertEqual(rational_space(op), Space([((y,), ()) for y in ys]))

    def test_papers(self):
        for op, rights in some_equations(263, 12):
            space, paper = make_paper(op, rights)
            self.assertEqual(space, rational_space(op, rights))
            self.assertIs(takes(op, rights, space, paper), True)
            # A space that is accepted with any of these papers is the one of all solutions.
            for pairs in ([], list(space)[1:], list(space)[:-1], list(space) + [(functions_of("x^9 + 1"), vector(*[0] * len(rights)))]):
                other = Space(pairs, sides=len(rights))
                self.assertIs(takes(op, rights, other, paper), other == space)

    def test_logs(self):
        for name in ("x", "t"):
            console = Console(name=name)
            for line, _, _ in LINES:
                console.enter(line)
            entries = list(console)
            self.assertEqual(read_log(console.log()), entries)
            self.assertEqual(first_wrong(read_log(console.log()), name=name), -1)

    def test_power_products(self):
        source = random.Random(264)
        for _ in range(8):
            op = some_operator(source, 1)
            if op.is_zero():
                continue
            for product, space in power_products(op):
                for (f,), _ in space:
                    self.assertIs(solves(op, product, f), True)


class Constancy(unittest.TestCase):
    def test_arguments_stay(self):
        half = Ratio(1, 2)
        factors = [(Ratio(1), half), (Ratio(0), half), (Ratio(1), half)]
        pairs = [(functions_of("x"), ()), (functions_of("2*x"), ())]
        entries = [("solve x*D - 1", reply_to({}, "solve x*D - 1"))]
        names = {"op": "x*D - 1"}
        before = (list(factors), list(pairs), list(entries), dict(names))
        for _ in range(2):
            PowerProduct(factors)
            Space(pairs)
            write_log(entries)
            first_wrong(entries)
            full_text(names, "op*op")
            read_line(names, "let op = op*D")
            reply_to(names, "let op = op*D")
            is_right(names, entries[0])
        self.assertEqual((factors, pairs, entries, names), before)

    def test_objects_stay(self):
        op = operator("x^2*D^2 + x*D - 1/4")
        product = PowerProduct([(Ratio(0), Ratio(1, 2))])
        space, paper = make_paper(op, functions_of("x"))
        reply = reply_to({}, "solve D")
        before = written(packed((op, product, space, paper, reply.data)))
        for _ in range(2):
            candidates(op)
            power_products(op)
            solves(op, product, function("1/x"))
            takes(op, functions_of("x"), space, paper)
            product * product
            product.surplus(product)
            space_text(space)
            unpacked(packed(space))
            is_right({}, ("solve D", reply))
            list(space)
            str(product)
        self.assertEqual(written(packed((op, product, space, paper, reply.data))), before)

    def test_equal_arguments_give_equal_results(self):
        for line, _, _ in LINES:
            self.assertEqual(reply_to({"op": "x*D - 1", "of": "1/x"}, line), reply_to({"of": "1/x", "op": "x*D - 1"}, line))
        for op, rights in some_equations(265, 4):
            found = make_paper(op, rights)
            other = unpacked(packed((op, rights)))
            self.assertEqual(make_paper(other[0], other[1]), found)
            self.assertEqual(written(packed(make_paper(op, rights))), written(packed(found)))


class Together(unittest.TestCase):
    def test_equations_of_systems(self):
        # The first components for the companion of an operator are its solutions.
        for text in ("x^2*D^2 + x*D - 1", "D^2 - 2/x^2", "x*D + 2", "D^3"):
            op = operator(text)
            found = Space([((ys[0],), cs) for ys, cs in system_space(companion(op))])
            self.assertEqual(found, rational_space(op))
            self.assertIs(takes(op, (), found, make_paper(op)[1]), True)

    def test_rational_solutions_are_power_products_without_factors(self):
        for text in ("x^2*D^2 + x*D - 1", "(2*x*D - 1)*D", "x*D + 2", "x^2*D^2 + 1/4"):
            op = operator(text)
            found = [space for product, space in power_products(op) if len(product) == 0]
            whole = rational_space(op)
            self.assertEqual(found, [whole] if len(whole) > 0 else [])


if __name__ == "__main__":
    unittest.main()
