"""Call 7: an ideal's norm."""

import random
import unittest

from tests import oracle
from tests.support import MOST, answered, common, drop, flat_rows, ideal, last, norm, product, ring, sum_of, told

TEN_TO_THE_TWELVE = 10 ** 12


class NormTest(unittest.TestCase):
    def check(self, start, places, expected):
        self.assertEqual(last(start, ideal(*places), norm(0)), [0, expected])

    def test_worked(self):
        self.check(ring(5, 0), [2, 0, 1, 1], 2)
        self.check(ring(5, 0), [1, 1], 6)
        self.check(ring(5, 0), [-7, 0], 49)
        self.check(ring(1, 1), [1, -1], 3)
        self.check(ring(-2, 0, 0), [0, 1, 0], 2)
        self.check(ring(-2, 0, 0), [1, 1, 0], 3)
        self.check(ring(-2, 0, 0), [5, 0, 0], 125)
        self.check(ring(1, 0, 0, 0), [1, 1, 0, 0], 2)
        self.check(ring(1, 0, 0, 0), [3, 0, 0, 0, -1, 1, 1, 0], 9)
        self.check(ring(1, 0, 0, 0), [-5, 0, 0, 0], 625)

    def test_ring_at_the_beginning(self):
        self.assertEqual(answered(ideal(2, 1), norm(0), ideal(3, 0), norm(1), norm(0)),
                         [[0], [0, 5], [1], [0, 9], [0, 5]])

    def test_norm_of_1(self):
        self.check(ring(5, 0), [1, 0], 1)
        self.check(ring(-2, 0), [1, -1], 1)
        self.check(ring(-2, 0, 0), [2, 0, 0, 3, 0, 0], 1)
        self.check(ring(1, 0, 0, 0), [0, 0, 0, -1], 1)

    def test_greatest_norm(self):
        self.check(ring(-6, 4, -1, -18), [-100, 100, -100, 100], TEN_TO_THE_TWELVE)
        found = answered(ideal(64, 0), ideal(25, 0), product(1, 1), product(2, 1), common(0, 3), norm(4), norm(3))
        self.assertEqual(found[5:], [[0, TEN_TO_THE_TWELVE], [0, 25 ** 6]])

    def test_how_many_classes(self):
        choices = random.Random(61)
        for coefficients, m in [((5, 0), 12), ((-3, 1), 30), ((3, 0), 16), ((-2, 0, 0), 10), ((4, -7, 3), 8),
                                ((1, 0, 0, 0), 4), ((5, 10, 0, -20), 6)]:
            width = len(coefficients)
            for _ in range(8):
                numbers = [[choices.randint(-100, 100) for _ in range(width)] for _ in range(choices.randint(0, 2))]
                numbers.append([m] + [0] * (width - 1))
                found = last(ring(*coefficients), ideal(*[place for number in numbers for place in number]), norm(0))
                classes = oracle.norm_of_set(oracle.made_of(coefficients, numbers, m), width, m)
                self.assertEqual(found, [0, classes], (coefficients, numbers))

    def test_of_one_number(self):
        choices = random.Random(62)
        for coefficients in [(5, 0), (20, 19), (-20, 0, 20), (17, -19, 20), (1, 0, 0, 0), (2, 0, 0, 1)]:
            for _ in range(30):
                number = [choices.randint(-60, 60) for _ in coefficients]
                expected = oracle.norm_of_number(coefficients, number)
                found = answered(ring(*coefficients), ideal(*number), norm(0))
                if expected > TEN_TO_THE_TWELVE:
                    self.assertEqual(found[1:], [[-8], [-2]])
                else:
                    self.assertEqual(found[1:], [[0], [0, expected]])

    def test_none_such(self):
        self.assertEqual(answered(norm(0), norm(MOST), ideal(2, 0), norm(1), norm(MOST), norm(0)),
                         [[-2], [-2], [0], [-2], [-2], [0, 4]])
        self.assertEqual(last(ideal(2, 0), ring(5, 0), norm(0)), [-2])
        self.assertEqual(last(ideal(2, 0), ideal(3, 0), drop(), norm(1)), [-2])

    def test_changes_nothing(self):
        found = answered(ring(5, 0), ideal(2, 0, 1, 1), norm(0), norm(3), told(0), ideal(3, 0), sum_of(0, 1))
        self.assertEqual(found[2:], [[0, 2], [-2], flat_rows([2, 0], [1, 1]), [1], [2]])


if __name__ == "__main__":
    unittest.main()
