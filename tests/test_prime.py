"""Call 11: whether an ideal is prime."""

import unittest

from tests import oracle
from tests.support import MOST, answered, drop, flat_rows, ideal, last, making, norm, prime, product, ring, told


class PrimeTest(unittest.TestCase):
    def check(self, start, expected, *ideals):
        """expected: the norm, and whether it's prime."""
        for places in ideals:
            found = answered(start, ideal(*places), norm(0), prime(0))
            self.assertEqual((found[2][1], *found[3]), expected, places)

    def test_whole_ring_is_not(self):
        self.check(ring(5, 0), (1, 0), [1, 0], [-1, 0], [2, 0, 3, 0])
        self.check(ring(-2, 0, 0), (1, 0), [1, 0, 0], [1, -1, 0])
        self.check(ring(1, 0, 0, 0), (1, 0), [1, 0, 0, 0], [0, 0, 1, 0])

    def test_norm_is_a_prime_number(self):
        self.check(ring(5, 0), (2, 1), [2, 0, 1, 1])
        self.check(ring(5, 0), (3, 1), [3, 0, 1, 1], [3, 0, 1, -1])
        self.check(ring(5, 0), (5, 1), [0, 1])
        self.check(ring(1, 0), (197, 1), [14, 1], [14, -1])
        self.check(ring(-2, 0, 0), (2, 1), [0, 1, 0])
        self.check(ring(-2, 0, 0), (3, 1), [1, 1, 0])
        self.check(ring(1, 0, 0, 0), (2, 1), [1, 1, 0, 0])
        self.check(ring(1, 0, 0, 0), (17, 1), [2, 1, 0, 0], [17, 0, 0, 0, -8, 1, 0, 0])

    def test_norm_is_the_greatest_prime_number_tried(self):
        self.check(ring(-2, 0), (199, 1), [19, 9], [19, -9])
        self.check(ring(1, 1), (199, 1), [15, 2], [13, -2])

    def test_norm_is_a_power_and_it_is_prime(self):
        self.check(ring(1, 0), (9, 1), [3, 0])
        self.check(ring(1, 0), (49, 1), [7, 0])
        self.check(ring(1, 0), (121, 1), [0, 11])
        self.check(ring(1, 1), (4, 1), [2, 0])
        self.check(ring(5, 0), (169, 1), [13, 0])
        self.check(ring(1, -1, 0), (8, 1), [2, 0, 0])
        self.check(ring(1, -1, 0), (27, 1), [3, 0, 0])
        self.check(ring(1, 0, 0, 0), (9, 1), [3, 0, 0, 0, -1, 1, 1, 0], [3, 0, 0, 0, -1, -1, 1, 0])
        self.check(ring(2, 1, 0, 0), (81, 1), [3, 0, 0, 0])
        self.check(ring(1, 1, 0, 0), (16, 1), [2, 0, 0, 0])

    def test_norm_is_a_power_and_it_is_not_prime(self):
        self.check(ring(1, 0), (4, 0), [2, 0])
        self.check(ring(1, 0), (25, 0), [5, 0], [3, 4], [4, 3])
        self.check(ring(1, 0), (169, 0), [13, 0], [5, 12])
        self.check(ring(5, 0), (4, 0), [2, 0])
        self.check(ring(5, 0), (9, 0), [3, 0], [2, 1], [2, -1])
        self.check(ring(3, 0), (4, 0), [2, 0])
        self.check(ring(-2, 0, 0), (8, 0), [2, 0, 0])
        self.check(ring(1, -1, 0), (125, 0), [5, 0, 0])
        self.check(ring(1, 0, 0, 0), (81, 0), [3, 0, 0, 0])
        self.check(ring(1, 0, 0, 0), (16, 0), [2, 0, 0, 0])
        self.check(ring(1, 0, 0, 0), (4, 0), [1, 0, 1, 0])

    def test_norm_is_no_power(self):
        self.check(ring(5, 0), (6, 0), [1, 1], [1, -1])
        self.check(ring(1, 0), (10, 0), [3, 1], [1, -3])
        self.check(ring(-2, 0, 0), (6, 0), [0, 1, 1])
        self.check(ring(1, 0, 0, 0), (18, 0), [3, 3, 0, 0, -1, 0, 2, 1])

    def test_norm_of_200_and_of_201(self):
        self.check(ring(1, 0), (200, 0), [14, 2], [2, 14], [10, 10])
        self.check(ring(5, 0), (201, -9), [14, 1], [-14, 1])
        self.check(ring(-2, 0), (200, 0), [20, 10])
        self.check(ring(1, 1), (201, -9), [16, 11])

    def test_norm_above_200_of_a_prime_one(self):
        self.check(ring(1, 0), (229, -9), [15, 2])
        self.check(ring(1, 0), (361, -9), [19, 0])
        self.check(ring(-6, 4, -1, -18), (10 ** 12, -9), [-100, 100, -100, 100])

    def test_ring_that_does_not_part_in_one_way(self):
        # Below 2 with the root of -3: of norm 2 there's just one, and its product with itself has norm 8.
        found = answered(ring(3, 0), ideal(2, 0, 1, 1), product(0, 0), norm(1), prime(0), prime(1))
        self.assertEqual(found[3:], [[0, 8], [1], [0]])

    def test_ring_at_the_beginning(self):
        self.assertEqual(answered(ideal(1, 1), ideal(2, 0), ideal(3, 0), prime(0), prime(1), prime(2))[3:],
                         [[1], [0], [1]])

    def test_against_the_words(self):
        for coefficients, m in [((1, 0), 10), ((5, 0), 6), ((3, 0), 4), ((1, 1), 9), ((3, 0), 8), ((-10, 1), 6),
                                ((-2, 0, 0), 3), ((1, -1, 0), 3), ((8, 0, 4), 4), ((1, 0, 0, 0), 3),
                                ((2, 1, 0, 0), 3), ((1, 1, 0, 0), 2), ((1, 3, 4, 2), 2), ((4, 0, 2, 2), 2)]:
            width = len(coefficients)
            for whole in oracle.ideals_that_have(coefficients, m):
                calls, i = making(oracle.rows_of(whole, width, m))
                expected = int(oracle.is_prime(coefficients, whole, m))
                self.assertEqual(last(ring(*coefficients), *calls, prime(i)), [expected], (coefficients, whole))

    def test_none_such(self):
        self.assertEqual(answered(prime(0), prime(MOST), ideal(3, 0), prime(1), prime(MOST), prime(0)),
                         [[-2], [-2], [0], [-2], [-2], [1]])
        self.assertEqual(last(ideal(3, 0), ring(5, 0), prime(0)), [-2])
        self.assertEqual(answered(ideal(3, 0), ideal(100, 0), prime(1), drop(), prime(1))[2:], [[-9], [1], [-2]])

    def test_changes_nothing(self):
        found = answered(ring(5, 0), ideal(2, 0, 1, 1), ideal(100, 0), prime(0), prime(1), prime(2), told(0), told(1),
                         told(2), ideal(3, 0))
        self.assertEqual(found[3:], [[1], [-9], [-2], flat_rows([2, 0], [1, 1]), flat_rows([100, 0], [0, 100]), [-2],
                                     [2]])


if __name__ == "__main__":
    unittest.main()
