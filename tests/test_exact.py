"""Point 7: factorials, arrangements, determinants; points 1 and 2: fractions."""

import itertools
import math
import random
import unittest

from countedsteps.exact import arrangements, determinant, factorial, lowest
from helping import GREAT


def by_orders(rows):
    """The determinant, by adding up over all orders of the columns."""
    total = 0
    for order in itertools.permutations(range(len(rows))):
        turns = sum(one > other for one, other in itertools.combinations(order, 2))
        total += (-1) ** turns * math.prod(rows[at][order[at]] for at in range(len(rows)))
    return total


class Exact(unittest.TestCase):
    def test_document_examples(self):
        self.assertEqual((determinant(((2, -1), (-1, 2))), arrangements((2, 1)), factorial(5)), (3, 3, 120))

    def test_factorial(self):
        self.assertEqual([factorial(many) for many in range(7)], [1, 1, 2, 6, 24, 120, 720])
        self.assertEqual(factorial(60), math.prod(range(1, 61)))
        self.assertEqual(factorial(many=61), 61 * factorial(60))

    def test_arrangements(self):
        self.assertEqual([arrangements(numbers) for numbers in [(), (0,), (7,), (0, 0), (1, 0, 2)]], [1, 1, 1, 1, 3])
        for numbers in itertools.product(range(4), repeat=3):
            rows = set(itertools.permutations("a" * numbers[0] + "b" * numbers[1] + "c" * numbers[2])) \
                if sum(numbers) < 7 else None
            if rows is not None:
                self.assertEqual(arrangements(numbers), len(rows))
        self.assertEqual(arrangements([20, 20, 20]), factorial(60) // factorial(20) ** 3)
        self.assertEqual(arrangements(numbers=(1,) * 60), factorial(60))
        self.assertEqual((arrangements((GREAT,)), arrangements((GREAT, 1))), (1, GREAT + 1))

    def test_determinant(self):
        self.assertEqual((determinant(()), determinant([]), determinant(((7,),)), determinant(((0,),))), (1, 1, 7, 0))
        self.assertEqual(determinant(((0, 1), (1, 0))), -1)
        self.assertEqual(determinant(((0, 0, 1), (1, 0, 0), (0, 1, 0))), 1)
        self.assertEqual(determinant(((0, 2, 1), (0, 0, 3), (5, 0, 0))), 30)
        self.assertEqual(determinant(((0, 1), (0, 2))), 0)
        self.assertEqual(determinant(((2, 4), (1, 2))), 0)

    def test_determinant_against_all_orders(self):
        rng = random.Random(7)
        for _ in range(400):
            size = rng.randint(1, 5)
            most = rng.choice([1, 3, GREAT])
            rows = [[rng.randint(-most, most) for _ in range(size)] for _ in range(size)]
            kept = [list(row) for row in rows]
            self.assertEqual(determinant(rows), by_orders(rows), rows)
            self.assertEqual(rows, kept)
            self.assertEqual(determinant(tuple(map(tuple, rows))), determinant(rows=rows))

    def test_determinant_of_great_numbers(self):
        rows = [[GREAT * (7 if one == other else -1) for other in range(7)] for one in range(7)]
        self.assertEqual(determinant(rows), 8 ** 6 * GREAT ** 7)

    def test_lowest(self):
        self.assertEqual([lowest(*pair) for pair in [(0, 5), (0, 1), (4, 6), (3, 3), (6, 2), (3, 7)]],
                         [(0, 1), (0, 1), (2, 3), (1, 1), (3, 1), (3, 7)])


if __name__ == "__main__":
    unittest.main()
