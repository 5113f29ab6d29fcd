import random
import unittest

from helpers import ratio, some_ratio
from indicial.linear import Matrix
from indicial.ratio import Ratio
from indicial.sparse import PRIME, kernel_of, rank_modulo, whole_row


def dense(row, width):
    return [row.get(k, Ratio(0)) for k in range(width)]


class Kernels(unittest.TestCase):
    def test_random_matrices(self):
        source = random.Random(170)
        for _ in range(60):
            width = source.randint(0, 7)
            rows = []
            for _ in range(source.randint(0, 8)):
                columns = [k for k in range(width) if source.random() < 0.4]
                rows.append({k: some_ratio(source, 4) for k in columns})
            matrix = Matrix([dense(row, width) for row in rows], width)
            found = kernel_of(rows, width)
            self.assertTrue(all(matrix.times(x) == tuple(Ratio(0) for _ in rows) for x in found))
            self.assertEqual(Matrix(found, width).rank(), len(found))
            self.assertEqual(len(found), width - matrix.rank())
            self.assertEqual(rank_modulo([whole_row(row) for row in rows], PRIME), matrix.rank())

    def test_examples(self):
        self.assertEqual(kernel_of([], 2), [(Ratio(1), Ratio(0)), (Ratio(0), Ratio(1))])
        self.assertEqual(kernel_of([{}], 1), [(Ratio(1),)])
        self.assertEqual(kernel_of([{0: ratio(2), 2: ratio(3)}, {2: Ratio(0)}], 3),
                         [(Ratio(0), Ratio(1), Ratio(0)), (Ratio(-3, 2), Ratio(0), Ratio(1))])
        self.assertEqual(kernel_of([{0: ratio(5)}, {1: ratio(7)}], 2), [])

    def test_a_rank_that_is_less_modulo_the_prime(self):
        self.assertEqual(rank_modulo([{0: PRIME}], PRIME), 0)
        self.assertEqual(rank_modulo([{0: 1, 1: 1}, {0: 1, 2: 1}, {1: 1, 2: -1}], PRIME), 2)
        self.assertEqual(kernel_of([{0: ratio(1), 1: ratio(1)}, {0: ratio(1), 1: Ratio(PRIME + 1)}], 2), [])

    def test_whole_rows(self):
        self.assertEqual(whole_row({3: Ratio(1, 2), 0: Ratio(-1, 3), 1: Ratio(0)}), {3: 3, 0: -2})
        self.assertEqual(whole_row({1: ratio(6), 2: ratio(9)}), {1: 2, 2: 3})

    def test_long_chains(self):
        rows = [{k: ratio(k + 1), k + 1: ratio(-1)} for k in range(120)]
        found = kernel_of(rows, 121)
        self.assertEqual(len(found), 1)
        x = found[0]
        self.assertTrue(all((ratio(k + 1) * x[k] - x[k + 1]).is_zero() for k in range(120)))
        self.assertFalse(x[0].is_zero())


if __name__ == "__main__":
    unittest.main()
