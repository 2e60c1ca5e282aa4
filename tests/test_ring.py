"""Call 0: a ring, its refusals, and the ring at the beginning."""

import random
import unittest
from itertools import product as places_of

from tests.oracle import multiplied, partings
from tests.support import MOST, MOST_CALLS, answered, flat_rows, ideal, last, ring, told


def answers_to_rings(rings):
    """What each ring alone is answered, in as few lists as can be."""
    found = []
    for start in range(0, len(rings), MOST_CALLS):
        part = rings[start:start + MOST_CALLS]
        found.extend(answered(*[ring(*coefficients) for coefficients in part]))
    return found


class RingTest(unittest.TestCase):
    def check(self, rings, expected):
        for coefficients, answer in zip(rings, answers_to_rings(rings)):
            self.assertEqual(answer, [expected], coefficients)

    def check_all(self, degree, limit):
        can_be_parted = partings(degree, limit)
        rings = list(places_of(range(-limit, limit + 1), repeat=degree))
        for coefficients, answer in zip(rings, answers_to_rings(rings)):
            expected = [-3] if coefficients in can_be_parted else [0]
            self.assertEqual(answer, expected, coefficients)

    def test_rings_of_two_three_and_four_numbers(self):
        self.check([(1, 0), (5, 0), (-2, 0), (1, 1), (-1, -1), (20, 20), (-20, -20)], 0)
        self.check([(-2, 0, 0), (-1, -1, 0), (1, -2, -1), (20, 20, 20), (2, -20, 20)], 0)
        self.check([(1, 0, 0, 0), (1, 1, 1, 1), (1, 0, -10, 0), (2, 0, 0, 0), (16, 0, -20, 0)], 0)

    def test_polynomials_that_can_be_parted(self):
        self.check([(0, 0), (-1, 0), (0, 20), (-20, 19), (-20, -19), (19, -20), (20, 12), (1, 2)], -3)
        self.check([(0, 0, 0), (1, 0, 0), (-8, 0, 0), (0, 5, 0), (1, 3, 3), (-20, -19, -19), (0, -20, 1)], -3)
        self.check([(0, 0, 0, 0), (-1, 0, 0, 0), (-16, 0, 0, 0), (0, 2, 0, 0), (-20, 0, 0, 19), (1, 4, 6, 4)], -3)

    def test_degree_four_parted_into_two_of_degree_two(self):
        self.check([(4, 0, 0, 0), (1, 0, 2, 0), (1, 0, 1, 0), (4, 0, -20, 0), (6, 0, 5, 0)], -3)
        self.check([(1, 2, 3, 2), (4, 0, 4, 0), (-6, 0, 1, 0), (9, 0, 2, 0), (1, 0, -18, 0)], -3)

    def test_every_polynomial_of_degree_two(self):
        self.check_all(2, 20)

    def test_every_small_polynomial_of_degree_three_and_four(self):
        self.check_all(3, 5)
        self.check_all(4, 2)

    def test_large_polynomials_of_degree_three_that_can_be_parted(self):
        rings = []
        for root, b, a in places_of(range(-20, 21), range(-20, 21), range(-21, 22)):
            whole = multiplied([-root, 1], [b, a, 1])[:-1]
            if all(abs(c) <= 20 for c in whole):
                rings.append(tuple(whole))
        self.check(random.Random(3).sample(rings, 800), -3)
        self.check([whole for whole in rings if abs(whole[0]) == 20][:400], -3)

    def test_large_polynomials_of_degree_four_that_can_be_parted(self):
        rings = []
        for b in range(-20, 21):
            for d in [d for d in range(-20, 21) if abs(b * d) <= 20]:
                for a, e in places_of(range(-24, 25), repeat=2):
                    whole = multiplied([b, a, 1], [d, e, 1])[:-1]
                    if all(abs(c) <= 20 for c in whole):
                        rings.append(tuple(whole))
        self.check(random.Random(4).sample(rings, 1500), -3)

    def test_large_polynomials_that_cannot_be_parted(self):
        choices = random.Random(5)
        rings = []
        while len(rings) < 900:
            # What a prime divides throughout, and its square not at the last place, can't be parted.
            prime = choices.choice([2, 3, 5, 7])
            most = 20 // prime
            places = [prime * choices.randint(-most, most) for _ in range(choices.choice([2, 3, 4]))]
            if places[0] % (prime * prime) != 0:
                rings.append(tuple(places))
        self.check(rings, 0)

    def test_too_few_and_too_many_numbers(self):
        self.check([(), (2,), (0,), (2, 2, 2, 2, 2), (0, 0, 0, 0, 0), (2, 2, 2, 2, 2, 2)], -1)

    def test_numbers_of_twenty_and_of_twenty_one(self):
        self.check([(20, 0), (-20, 0), (2, 20), (2, -20), (2, 0, 20), (2, 0, 0, -20)], 0)
        self.check([(21, 0), (-21, 0), (2, 21), (2, -21), (2, 0, 21), (2, 0, 0, -21)], -1)
        self.check([(MOST, 0), (-MOST, 0), (2, 0, MOST), (-MOST, -MOST, -MOST, -MOST)], -1)

    def test_wrong_numbers_are_told_ahead_of_a_parting(self):
        self.check([(0, 21), (-21, 20), (0, 0, -21), (-MOST, 0, 0)], -1)

    def test_ring_at_the_beginning(self):
        self.assertEqual(answered(told(0), ideal(0, 1, 5, 0), ideal(2, 1), told(1)),
                         [[-2], [0], [1], flat_rows([5, 0], [2, 1])])

    def test_ring_is_without_ideals(self):
        calls = [ideal(2, 0), ideal(3, 0), ring(5, 0), told(0), told(1), ideal(7, 0), told(0)]
        self.assertEqual(answered(*calls), [[0], [1], [0], [-2], [-2], [0], flat_rows([7, 0], [0, 7])])
        self.assertEqual(answered(ideal(2, 0), ring(1, 0), told(0)), [[0], [0], [-2]])

    def test_refused_ring_leaves_all_as_it_was(self):
        for refused in (ring(1, 0, 0), ring(21, 0, 0), ring()):
            calls = [ring(5, 0), ideal(2, 0, 1, 1), refused, told(0), ideal(0, 1), told(1), ideal(1, 0, 0)]
            found = answered(*calls)
            self.assertEqual(found[3], flat_rows([2, 0], [1, 1]))
            self.assertEqual(found[4:], [[1], flat_rows([5, 0], [0, 1]), [-1]])

    def test_width_follows_the_ring(self):
        self.assertEqual(last(ring(-2, 0, 0), ideal(0, 1, 0), told(0)),
                         flat_rows([2, 0, 0], [0, 1, 0], [0, 0, 1]))


if __name__ == "__main__":
    unittest.main()
