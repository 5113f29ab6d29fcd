import random
import unittest

from helpers import fun, functions_of, operator, poly, polys_of, some_function, some_operator
from indicial.clear import cleared
from indicial.divisor import common_divisor
from indicial.errors import Refused
from indicial.operator import Operator
from indicial.poly import Poly
from indicial.ratfun import of_poly
from indicial.ratio import Ratio


class Cleared(unittest.TestCase):
    def test_examples(self):
        self.assertEqual(cleared(operator("D - 1/x"), ()), (polys_of("-1", "x"), ()))
        self.assertEqual(cleared(operator("D"), functions_of("1/x", "1/x^2")), (polys_of("0", "x^2"), polys_of("x", "1")))
        self.assertEqual(cleared(operator("2*x*D"), ()), (polys_of("0", "2"), ()))
        self.assertEqual(cleared(operator("2*x*D"), functions_of("4")), (polys_of("0", "2*x"), polys_of("4")))
        self.assertEqual(cleared(operator("2*x*D"), functions_of("0")), (polys_of("0", "2"), polys_of("0")))
        self.assertEqual(cleared(operator("x/2"), ()), (polys_of("1/2"), ()))
        self.assertEqual(cleared(operator("1/(3*x + 3)*D"), functions_of("1/(2*x - 2)")),
                         (polys_of("0", "(x - 1)/3"), polys_of("(x + 1)/2")))

    def test_random_equations(self):
        source = random.Random(100)
        for _ in range(30):
            a = some_operator(source, source.randint(0, 3))
            rights = [some_function(source) for _ in range(source.randint(0, 3))]
            if a.is_zero():
                continue
            found = cleared(a, tuple(rights))
            self.assertIs(type(found), tuple)
            left, right = found
            self.assertEqual((type(left), type(right), len(left), len(right)), (tuple, tuple, len(a), len(rights)))
            divisor = Poly(())
            for p in left + right:
                divisor = common_divisor(divisor, p)
            self.assertEqual(divisor, poly(1))
            scale = of_poly(left[-1]) // a.leading()
            # The multiplier is monic above and below.
            self.assertEqual((scale.num.last(), scale.den.last()), (Ratio(1), Ratio(1)))
            self.assertEqual([of_poly(p) for p in left], [f * scale for f in a])
            self.assertEqual([of_poly(p) for p in right], [f * scale for f in rights])

    def test_zero(self):
        for rights in ((), (fun((1,)),)):
            with self.assertRaises(Refused) as held:
                cleared(Operator(()), rights)
            self.assertEqual(held.exception.reason, "zero")


if __name__ == "__main__":
    unittest.main()
