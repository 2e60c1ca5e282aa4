"""Call 12: all ideals of a norm."""

import time
import unittest

from tests import oracle
from tests.support import (MOST, all_of_norm, answered, flat_rows, holds, ideal, ideals_in, joined, last, making, norm,
                           prime, product, ring, sum_of, told)

GREATEST = 30
REASONABLE_SECONDS = 10
# With 2, 3 and 5 each these rings have an ideal whose norm is that.
FULL_OF_IDEALS = [(10, 1), (10, 0, 1), (10, 10, 0, 0)]


def whole_ring(width):
    return [[int(i == j) for j in range(width)] for i in range(width)]


class AllOfNormTest(unittest.TestCase):
    def check(self, coefficients, m, *ideals):
        found = last(ring(*coefficients), all_of_norm(m))
        self.assertEqual(found, [len(ideals), *joined(joined(ideals))], (coefficients, m))

    def test_worked(self):
        self.check((5, 0), 2, [[2, 0], [1, 1]])
        self.check((5, 0), 3, [[3, 0], [1, 1]], [[3, 0], [2, 1]])
        self.check((5, 0), 4, [[2, 0], [0, 2]])
        self.check((5, 0), 6, [[6, 0], [1, 1]], [[6, 0], [5, 1]])
        self.check((-2, 0, 0), 2, [[2, 0, 0], [0, 1, 0], [0, 0, 1]])
        self.check((-2, 0, 0), 4, [[2, 0, 0], [0, 2, 0], [0, 0, 1]])
        self.check((-2, 0, 0), 5, [[5, 0, 0], [2, 1, 0], [1, 0, 1]])
        self.check((1, 0, 0, 0), 2, [[2, 0, 0, 0], [1, 1, 0, 0], [1, 0, 1, 0], [1, 0, 0, 1]])
        self.check((1, 0, 0, 0), 9, [[3, 0, 0, 0], [0, 3, 0, 0], [2, 1, 1, 0], [1, 1, 0, 1]],
                   [[3, 0, 0, 0], [0, 3, 0, 0], [2, 2, 1, 0], [2, 1, 0, 1]])

    def test_there_is_none(self):
        self.check((1, 0), 3)
        self.check((5, 0), 13)
        self.check((-2, 0, 0), 7)
        self.check((1, 0, 0, 0), 30)

    def test_ring_at_the_beginning(self):
        self.assertEqual(answered(all_of_norm(5), all_of_norm(3), all_of_norm(2)),
                         [[2, 5, 0, 2, 1, 5, 0, 3, 1], [0], [1, 2, 0, 1, 1]])

    def test_of_norm_1(self):
        for coefficients in [(1, 0), (20, 20), (-2, 0, 0), (7, -20, 3), (1, 0, 0, 0), (3, -20, 20, 17)]:
            self.check(coefficients, 1, whole_ring(len(coefficients)))

    def test_of_norm_30(self):
        for coefficients in FULL_OF_IDEALS:
            found = ideals_in(last(ring(*coefficients), all_of_norm(30)), len(coefficients))
            self.assertGreater(len(found), 0)
            self.assertEqual(found, oracle.ideals_of_norm_by_forms(coefficients, 30))

    def test_as_many_as_sums_of_two_squares(self):
        # Each ideal of the ring at the beginning is made of just one a + b t with a above 0 and b not below 0.
        for m in range(1, GREATEST + 1):
            count = sum(1 for a in range(1, m + 1) for b in range(m + 1) if a * a + b * b == m)
            self.assertEqual(last(all_of_norm(m))[0], count, m)

    def test_against_the_words(self):
        for greatest, rings in [(9, [(1, 0), (5, 0), (3, 0), (1, 1), (-10, 1), (20, -20), (8, 4)]),
                                (4, [(-2, 0, 0), (1, -1, 0), (8, 0, 4), (3, 3, -3), (10, 0, 1), (-20, 19, 20)]),
                                (3, [(1, 0, 0, 0), (2, 1, 0, 0), (10, 10, 0, 0), (6, 12, 0, -18)])]:
            for coefficients in rings:
                for m in range(1, greatest + 1):
                    found = ideals_in(last(ring(*coefficients), all_of_norm(m)), len(coefficients))
                    self.assertEqual(found, oracle.ideals_of_norm(coefficients, m), (coefficients, m))

    def check_by_forms(self, rings, norms):
        for coefficients in rings:
            for m in norms:
                found = ideals_in(last(ring(*coefficients), all_of_norm(m)), len(coefficients))
                self.assertEqual(found, oracle.ideals_of_norm_by_forms(coefficients, m), (coefficients, m))

    def test_all_norms_in_rings_of_two(self):
        self.check_by_forms([(1, 0), (5, 0), (3, 0), (-10, 1), (20, -20), (16, 12), (-19, 20)], range(1, GREATEST + 1))

    def test_all_norms_in_rings_of_three(self):
        self.check_by_forms([(-2, 0, 0), (3, 3, -3)], range(1, GREATEST + 1))
        self.check_by_forms([(10, 0, 1), (16, 8, 4), (-19, 20, 18), (20, -20, 20)], [8, 9, 12, 16, 18])

    def test_norms_in_rings_of_four(self):
        self.check_by_forms([(1, 0, 0, 0), (10, 10, 0, 0)], [1, 2, 3, 4, 5, 6, 7, 8, 9, 10, 16])
        self.check_by_forms([(16, 0, -20, 0), (2, 0, 0, 0), (-19, 20, 18, -17)], [4, 8, 9, 12])

    def test_own_places_tell_first(self):
        # By the rows alone the second would stand first: its own places are 4, 4, 1.
        self.check((3, 3, -3), 16, [[4, 0, 0], [2, 2, 0], [2, 0, 2]], [[4, 0, 0], [0, 4, 0], [1, 2, 1]],
                   [[4, 0, 0], [0, 4, 0], [3, 0, 1]])
        self.check((1, 0), 25, [[5, 0], [0, 5]], [[25, 0], [7, 1]], [[25, 0], [18, 1]])
        self.check((2, 0), 9, [[3, 0], [0, 3]], [[9, 0], [4, 1]], [[9, 0], [5, 1]])

    def test_of_the_same_own_places_the_rows_tell(self):
        found = ideals_in(last(ring(16, 0, -20, 0), all_of_norm(16)), 4)
        self.assertGreater(len(found), 10)
        for one, other in zip(found, found[1:]):
            owns = [[row[i] for i, row in enumerate(rows)] for rows in (one, other)]
            self.assertLessEqual(owns[0], owns[1])
            if owns[0] == owns[1]:
                self.assertLess(joined(one), joined(other))
        owns = [[row[i] for i, row in enumerate(rows)] for rows in found]
        self.assertLess(len({tuple(own) for own in owns}), len(owns))

    def test_each_one_is_an_ideal_of_that_norm_with_these_rows(self):
        for coefficients, m in [((10, 1), 24), ((5, 0), 30), ((3, 3, -3), 16), ((10, 0, 1), 20), ((1, 0, 0, 0), 18),
                                ((16, 0, -20, 0), 16), ((10, 10, 0, 0), 30)]:
            ideals = ideals_in(last(ring(*coefficients), all_of_norm(m)), len(coefficients))
            self.assertTrue(ideals)
            for rows in ideals:
                calls, i = making(rows)
                found = answered(ring(*coefficients), *calls, norm(i), told(i), ideal(m, *[0] * (len(rows) - 1)),
                                 holds(i, i + 1))
                self.assertEqual(found[-4:], [[0, m], flat_rows(*rows), [i + 1], [1]], (coefficients, rows))

    def test_norms_that_are_not_1_to_30(self):
        for coefficients in [(5, 0), (-2, 0, 0), (1, 0, 0, 0)]:
            found = answered(ring(*coefficients), all_of_norm(0), all_of_norm(31), all_of_norm(MOST))
            self.assertEqual(found[1:], [[-1]] * 3)
        self.assertEqual(answered(all_of_norm(32), all_of_norm(MOST - 1), all_of_norm(30)), [[-1], [-1], [0]])

    def test_none_of_them_is_kept(self):
        found = answered(ring(5, 0), all_of_norm(3), told(0), ideal(2, 0, 1, 1), all_of_norm(6), all_of_norm(0),
                         told(0), told(1), ideal(3, 0))
        self.assertEqual(found[2:4], [[-2], [0]])
        self.assertEqual(found[5:], [[-1], flat_rows([2, 0], [1, 1]), [-2], [1]])
        fill = [ideal(2, 0)] * 8
        self.assertEqual(answered(*fill, all_of_norm(2), ideal(2, 0))[8:], [[1, 2, 0, 1, 1], [-5]])

    def test_same_again(self):
        found = answered(ring(10, 0, 1), all_of_norm(20), ideal(20, 0, 0), all_of_norm(20), all_of_norm(20))
        self.assertEqual(found[1], found[3])
        self.assertEqual(found[1], found[4])

    def test_three_such_and_six_of_prime_in_reasonable_time(self):
        for coefficients, places in [((-2, 0), [19, 9]), ((1, 0), [14, 1]), ((1, -1, 0), [3, 0, 0]),
                                     ((2, 1, 0, 0), [3, 0, 0, 0])]:
            for norms in ([30, 30, 30], [24, 16, 27], [30, 28, 24]):
                zeros = [0] * (len(coefficients) - 1)
                calls = [ring(*coefficients), ideal(*places), *[all_of_norm(m) for m in norms], *[prime(0)] * 6,
                         ideal(99, *zeros), ideal(1, *zeros[1:], 97), *[product(0, 1), sum_of(1, 2)] * 12, norm(0),
                         told(0), told(1)]
                start = time.process_time()
                found = answered(*calls)
                self.assertLess(time.process_time() - start, REASONABLE_SECONDS)
                self.assertEqual(len(found), 40)
                self.assertEqual(found[5:11], [[1]] * 6)


if __name__ == "__main__":
    unittest.main()
