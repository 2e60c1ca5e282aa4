"""Call 10: whether an ideal holds another."""

import random
import unittest

from tests import oracle
from tests.support import (MOST, answered, by, common, drop, flat_rows, holds, ideal, joined, last, product, ring,
                           sum_of, told)

RINGS = [(1, 0), (5, 0), (3, 0), (-2, 0, 0), (7, -20, 3), (1, 0, 0, 0), (3, 3, 0, -3)]


class HoldsTest(unittest.TestCase):
    def check(self, start, one, other, expected):
        """Both ways round."""
        self.assertEqual(answered(start, ideal(*one), ideal(*other), holds(0, 1), holds(1, 0))[3:],
                         [[answer] for answer in expected])

    def test_worked(self):
        self.check(ring(5, 0), [2, 0, 1, 1], [2, 0], [1, 0])
        self.check(ring(5, 0), [2, 0, 1, 1], [1, 1], [1, 0])
        self.check(ring(5, 0), [6, 0], [3, 0, 1, 1], [0, 1])
        self.check(ring(5, 0), [3, 0, 1, 1], [3, 0, 1, -1], [0, 0])
        self.check(ring(5, 0), [2, 0], [1, 1], [0, 0])
        self.check(ring(-2, 0, 0), [0, 1, 0], [2, 0, 0], [1, 0])
        self.check(ring(-2, 0, 0), [0, 1, 0], [1, 1, 0], [0, 0])
        self.check(ring(1, 0, 0, 0), [4, 0, 0, 0], [1, 1, 0, 0], [0, 1])
        self.check(ring(1, 0, 0, 0), [3, 0, 0, 0, -1, 1, 1, 0], [3, 0, 0, 0, -1, -1, 1, 0], [0, 0])

    def test_ring_at_the_beginning(self):
        self.assertEqual(answered(ideal(2, 1), ideal(5, 0), ideal(2, -1), holds(0, 1), holds(1, 0), holds(2, 1),
                                  holds(0, 2), holds(2, 0))[3:], [[1], [0], [1], [0], [0]])

    def test_itself(self):
        for coefficients in RINGS:
            zeros = [0] * (len(coefficients) - 1)
            found = answered(ring(*coefficients), ideal(6, *zeros), ideal(*zeros, 1, 4, *zeros), ideal(1, *zeros),
                             ideal(-6, *zeros), holds(0, 0), holds(1, 1), holds(2, 2), holds(0, 3), holds(3, 0))
            self.assertEqual(found[5:], [[1]] * 5)

    def test_whole_ring(self):
        for coefficients in RINGS:
            zeros = [0] * (len(coefficients) - 1)
            self.check(ring(*coefficients), [1, *zeros], [97, *zeros], [1, 0])
            self.check(ring(*coefficients), [2, *zeros, 3, *zeros], [-1, *zeros], [1, 1])

    def test_only_the_last_row_is_not_in_it(self):
        self.check(ring(-2, 0, 0), [4, 0, 0, 0, 4, 0], [4, 0, 0, 0, 0, 2], [0, 1])
        self.check(ring(1, 0, 0, 0), [2, 0, 0, 0], [2, 0, 0, 0, 1, 1, 1, 1], [0, 1])

    def test_great_norms(self):
        start = [ring(-6, 4, -1, -18), ideal(-100, 100, -100, 100), ideal(-1, 1, -1, 1), ideal(100, 0, 0, 0)]
        asked = [holds(0, 1), holds(1, 0), holds(2, 0), holds(0, 2)]
        self.assertEqual(answered(*start, *asked)[4:], [[0], [1], [1], [0]])

    def test_what_is_made_of_two(self):
        for coefficients in RINGS:
            zeros = [0] * (len(coefficients) - 1)
            start = [ring(*coefficients), ideal(6, *zeros), ideal(*zeros, 2, 5, *zeros), sum_of(0, 1), product(0, 1),
                     common(0, 1), by(0, 1)]
            pairs = [(2, 0), (2, 1), (0, 4), (1, 4), (4, 3), (0, 3), (5, 0), (2, 3)]
            self.assertEqual(answered(*start, *[holds(i, j) for i, j in pairs])[7:], [[1]] * len(pairs))

    def test_against_the_words(self):
        choices = random.Random(81)
        for coefficients, m in [((5, 0), 12), ((-3, 1), 30), ((3, 0), 16), ((-2, 0, 0), 6), ((4, -7, 3), 8),
                                ((1, 0, 0, 0), 4), ((4, 0, 2, 2), 4)]:
            width = len(coefficients)
            counts = {0: 0, 1: 0}
            for _ in range(8):
                made_of = [[[choices.randint(-100, 100) for _ in range(width)] for _ in range(choices.randint(0, 2))]
                           + [[choices.choice([m, m // 2]), *[0] * (width - 1)]] for _ in range(4)]
                sets = [oracle.made_of(coefficients, numbers + [[m, *[0] * (width - 1)]], m) for numbers in made_of]
                pairs = [(i, j) for i in range(4) for j in range(4)]
                found = answered(ring(*coefficients), *[ideal(*joined(numbers)) for numbers in made_of],
                                 *[holds(i, j) for i, j in pairs])
                expected = [int(sets[j] <= sets[i]) for i, j in pairs]
                self.assertEqual(found[5:], [[answer] for answer in expected], (coefficients, made_of))
                for i, j in pairs:
                    counts[expected[4 * i + j]] += 1
            self.assertGreater(min(counts.values()), 20, coefficients)

    def test_none_such(self):
        self.assertEqual(answered(holds(0, 0)), [[-2]])
        found = answered(ideal(2, 0), ideal(3, 0), holds(0, 2), holds(2, 0), holds(2, 2), holds(MOST, 1),
                         holds(1, MOST), holds(MOST, MOST), holds(0, 1))
        self.assertEqual(found[2:], [[-2]] * 6 + [[0]])
        self.assertEqual(last(ideal(2, 0), ring(5, 0), holds(0, 0)), [-2])
        self.assertEqual(last(ideal(2, 0), ideal(3, 0), drop(), holds(0, 1)), [-2])

    def test_changes_nothing(self):
        found = answered(ring(5, 0), ideal(2, 0, 1, 1), ideal(2, 0), holds(0, 1), holds(1, 0), holds(0, 2), told(0),
                         told(1), told(2), ideal(3, 0))
        self.assertEqual(found[3:], [[1], [0], [-2], flat_rows([2, 0], [1, 1]), flat_rows([2, 0], [0, 2]), [-2], [2]])


if __name__ == "__main__":
    unittest.main()
