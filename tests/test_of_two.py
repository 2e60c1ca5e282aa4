"""Calls 2 to 5: the sum, the product, what two have in common, one by another."""

import random
import unittest

from tests import oracle
from tests.oracle import exact_times, is_ideal, is_sum_of_rows, norm_by_rows
from tests.support import (MOST, answered, by, common, flat_rows, ideal, last, product, ring, rows_in, sum_of,
                           told)

ROOT_OF_MINUS_FIVE = ring(5, 0)
ROOT_OF_MINUS_THREE = ring(3, 0)
CUBE_ROOT_OF_TWO = ring(-2, 0, 0)
EIGHTH_ROOT_OF_ONE = ring(1, 0, 0, 0)
OF_TWO = (sum_of, product, common, by)

# Above 2, 3 and 3 with the root of -5.
TWO = ideal(2, 0, 1, 1)
THREE = ideal(3, 0, 1, 1)
OTHER_THREE = ideal(3, 0, 1, -1)


class WorkedTest(unittest.TestCase):
    def check(self, start, ideals, call, *rows):
        found = answered(*start, *ideals, call, told(len(ideals)))
        self.assertEqual(found[-2:], [[len(ideals)], flat_rows(*rows)])

    def test_sum(self):
        self.check([ROOT_OF_MINUS_FIVE], [TWO, THREE], sum_of(0, 1), [1, 0], [0, 1])
        self.check([ROOT_OF_MINUS_FIVE], [ideal(6, 0), ideal(1, 1)], sum_of(1, 0), [6, 0], [1, 1])
        self.check([ROOT_OF_MINUS_FIVE], [ideal(4, 0), ideal(6, 0)], sum_of(0, 1), [2, 0], [0, 2])
        self.check([CUBE_ROOT_OF_TWO], [ideal(6, 0, 0), ideal(0, 2, 0)], sum_of(0, 1), [2, 0, 0], [0, 2, 0], [0, 0, 2])
        self.check([EIGHTH_ROOT_OF_ONE], [ideal(3, 0, 0, 0), ideal(-1, 1, 1, 0)], sum_of(0, 1),
                   [3, 0, 0, 0], [0, 3, 0, 0], [2, 1, 1, 0], [1, 1, 0, 1])

    def test_product(self):
        self.check([ROOT_OF_MINUS_FIVE], [TWO], product(0, 0), [2, 0], [0, 2])
        self.check([ROOT_OF_MINUS_FIVE], [THREE, OTHER_THREE], product(0, 1), [3, 0], [0, 3])
        self.check([ROOT_OF_MINUS_FIVE], [TWO, THREE], product(1, 0), [6, 0], [1, 1])
        self.check([ROOT_OF_MINUS_FIVE], [THREE], product(0, 0), [9, 0], [7, 1])
        self.check([CUBE_ROOT_OF_TWO], [ideal(0, 1, 0), ideal(0, 0, 1)], product(0, 1), [2, 0, 0], [0, 2, 0], [0, 0, 2])
        self.check([EIGHTH_ROOT_OF_ONE], [ideal(1, 1, 0, 0)], product(0, 0),
                   [2, 0, 0, 0], [0, 2, 0, 0], [1, 0, 1, 0], [0, 1, 0, 1])

    def test_product_whose_norm_is_not_the_product_of_the_norms(self):
        self.check([ROOT_OF_MINUS_THREE], [ideal(2, 0, 1, 1)], product(0, 0), [4, 0], [2, 2])

    def test_common(self):
        self.check([ROOT_OF_MINUS_FIVE], [ideal(4, 0), ideal(6, 0)], common(0, 1), [12, 0], [0, 12])
        self.check([ROOT_OF_MINUS_FIVE], [TWO, THREE], common(0, 1), [6, 0], [1, 1])
        self.check([ROOT_OF_MINUS_FIVE], [ideal(2, 0), ideal(1, 1)], common(1, 0), [6, 0], [2, 2])
        self.check([ROOT_OF_MINUS_FIVE], [TWO], common(0, 0), [2, 0], [1, 1])
        self.check([CUBE_ROOT_OF_TWO], [ideal(0, 1, 0), ideal(3, 0, 0)], common(0, 1), [6, 0, 0], [0, 3, 0], [0, 0, 3])

    def test_by(self):
        self.check([ROOT_OF_MINUS_FIVE], [ideal(6, 0), THREE], by(0, 1), [6, 0], [4, 2])
        self.check([ROOT_OF_MINUS_FIVE], [ideal(2, 0), TWO], by(0, 1), [2, 0], [1, 1])
        self.check([ROOT_OF_MINUS_FIVE], [THREE, ideal(6, 0)], by(0, 1), [1, 0], [0, 1])
        self.check([ROOT_OF_MINUS_FIVE], [TWO, THREE], by(0, 1), [2, 0], [1, 1])
        self.check([ROOT_OF_MINUS_FIVE], [TWO], by(0, 0), [1, 0], [0, 1])
        self.check([CUBE_ROOT_OF_TWO], [ideal(2, 0, 0), ideal(0, 1, 0)], by(0, 1), [2, 0, 0], [0, 2, 0], [0, 0, 1])

    def test_by_keeps_to_numbers_of_the_ring(self):
        # Half of 1 + t would do, too, but isn't of this ring.
        self.check([ROOT_OF_MINUS_THREE], [ideal(2, 0, 1, 1)], by(0, 0), [1, 0], [0, 1])
        self.check([ROOT_OF_MINUS_THREE], [ideal(4, 0, 2, 2), ideal(2, 0, 1, 1)], by(0, 1), [2, 0], [1, 1])

    def test_ring_at_the_beginning(self):
        self.check([], [ideal(2, 0), ideal(1, 1)], by(0, 1), [2, 0], [1, 1])
        self.check([], [ideal(1, 2), ideal(1, -2)], product(0, 1), [5, 0], [0, 5])

    def test_ideals_that_are_named_stay_as_they_were(self):
        for call in OF_TWO:
            found = answered(ROOT_OF_MINUS_FIVE, ideal(6, 0), THREE, call(0, 1), call(1, 0), call(0, 0), told(0), told(1))
            self.assertEqual(found[3:], [[2], [3], [4], flat_rows([6, 0], [0, 6]), flat_rows([3, 0], [1, 1])])


class AgainstTheWordsTest(unittest.TestCase):
    RINGS = [((5, 0), 6), ((3, 0), 4), ((1, 1), 7), ((-10, 1), 6), ((20, -20), 5), ((-2, 0, 0), 3), ((8, 0, 4), 4),
             ((1, 0, 0, 0), 3), ((16, 8, 0, 4), 2), ((4, 0, 2, 2), 2)]

    def pair_of_sets(self, choices, coefficients, m):
        width = len(coefficients)
        pair = []
        for _ in range(2):
            numbers = [[choices.randint(-9, 9) for _ in range(width)] for _ in range(choices.randint(0, 2))]
            pair.append(numbers + [[m] + [0] * (width - 1)])
        return pair

    def check_pair(self, coefficients, m, pair):
        width = len(coefficients)
        made = [ideal(*[place for number in numbers for place in number]) for numbers in pair]
        calls = [call(0, 1) for call in OF_TWO] + [by(1, 0)]
        found = answered(ring(*coefficients), *made, *calls, *[told(i) for i in range(2, 7)])
        self.assertEqual(found[:8], [[0], [0], [1], [2], [3], [4], [5], [6]])
        one, other = [oracle.made_of(coefficients, numbers, m) for numbers in pair]
        expected = [
            oracle.rows_of(oracle.sums(one, other, m), width, m),
            oracle.rows_of(oracle.products(coefficients, one, other, m), width, m * m),
            oracle.rows_of(one & other, width, m),
            oracle.rows_of(oracle.one_by_another(coefficients, one, other, m), width, m),
            oracle.rows_of(oracle.one_by_another(coefficients, other, one, m), width, m),
        ]
        self.assertEqual([rows_in(answer, width) for answer in found[8:]], expected, (coefficients, pair))

    def test_small_ideals(self):
        choices = random.Random(21)
        for coefficients, m in self.RINGS:
            for _ in range(6):
                self.check_pair(coefficients, m, self.pair_of_sets(choices, coefficients, m))


class LargeTest(unittest.TestCase):
    def check_rows(self, coefficients, rows):
        """They are in the form that rows have, and an ideal's."""
        for i, row in enumerate(rows):
            self.assertTrue(row[i] > 0 and not any(row[i + 1:]))
            self.assertTrue(all(0 <= row[j] < rows[j][j] for j in range(i)))
        self.assertTrue(is_ideal(coefficients, rows))

    def check_pair(self, coefficients, one, other, found):
        total, both, quotient = found
        for rows in found:
            self.check_rows(coefficients, rows)
        for row in one + other:
            self.assertTrue(is_sum_of_rows(total, row))
        for row in both:
            self.assertTrue(is_sum_of_rows(one, row) and is_sum_of_rows(other, row))
        # The classes of the one in the sum are as many as those of what's common in the other.
        self.assertEqual(norm_by_rows(total) * norm_by_rows(both), norm_by_rows(one) * norm_by_rows(other))
        for row in quotient:
            self.assertTrue(all(is_sum_of_rows(one, exact_times(coefficients, row, factor)) for factor in other))
        # The other is made of one number: times that, the quotient is just what's common.
        self.assertEqual(norm_by_rows(quotient) * norm_by_rows(other), norm_by_rows(both))

    def pair_of_numbers(self, choices, coefficients):
        """Both are multiples of one, so that the ideals have more in common than their product."""
        while True:
            shared = [choices.randint(-1, 1) for _ in coefficients]
            factors = [[choices.randint(-4, 4) for _ in coefficients] for _ in range(2)]
            pair = [exact_times(coefficients, shared, factor) for factor in factors]
            if all(0 < max(map(abs, number)) <= 100 for number in pair):
                return pair

    def test_large_ideals(self):
        choices = random.Random(31)
        for coefficients in [(5, 0), (20, 19), (-20, 0, 20), (17, -19, 20), (-20, 20, 20, 20), (14, -7, 0, 7)]:
            checked = 0
            while checked < 12:
                one, other = self.pair_of_numbers(choices, coefficients)
                found = answered(ring(*coefficients), ideal(*one), ideal(*other), sum_of(0, 1), common(0, 1),
                                 by(0, 1), *[told(i) for i in range(5)])
                if [-8] not in found:
                    rows = [rows_in(answer, len(coefficients)) for answer in found[6:]]
                    self.check_pair(coefficients, rows[0], rows[1], rows[2:])
                    checked += 1

    def test_one_by_another_undoes_a_product_with_an_ideal_of_one_number(self):
        for coefficients, one, other in [((5, 0), [98, 77, 64, 10], [99, 100]), ((-20, 0, 20), [7, 9, 3], [5, -2, 4]),
                                         ((1, 0, 0, 0), [93, 5, 7, 2], [1, 5, 2, -9])]:
            found = answered(ring(*coefficients), ideal(*one), ideal(*other), product(0, 1), by(2, 1), told(0), told(3))
            self.assertEqual(found[1:5], [[0], [1], [2], [3]])
            self.assertEqual(found[5], found[6])

    def test_product_of_ideals_of_one_number_is_made_of_their_product(self):
        choices = random.Random(41)
        for coefficients in [(5, 0), (20, 19), (-20, 0, 20), (17, -19, 20), (1, 0, 0, 0), (2, 0, 0, 1)]:
            checked = 0
            while checked < 10:
                one, other = [[choices.randint(-5, 5) for _ in coefficients] for _ in range(2)]
                whole = exact_times(coefficients, one, other)
                if any(one) and any(other) and max(map(abs, whole)) <= 100:
                    found = answered(ring(*coefficients), ideal(*one), ideal(*other), product(0, 1), ideal(*whole),
                                     told(2), told(3))
                    self.assertEqual(found[3:5], [[2], [3]])
                    self.assertEqual(found[5], found[6])
                    checked += 1


class RefusalTest(unittest.TestCase):
    def test_none_such(self):
        for call in OF_TWO:
            self.assertEqual(answered(call(0, 0)), [[-2]])
            refused = [call(0, 2), call(2, 0), call(MOST, 1), call(1, MOST), call(2, 2)]
            found = answered(ideal(2, 0), ideal(3, 0), *refused, call(0, 1), call(0, 2))
            self.assertEqual(found[2:], [[-2]] * 5 + [[2], [3]])

    def test_none_such_behind_another_ring(self):
        for call in OF_TWO:
            self.assertEqual(last(ideal(2, 0), ring(5, 0), call(0, 0)), [-2])

    def test_eight_ideals_and_a_ninth(self):
        for call in OF_TWO:
            found = answered(ideal(2, 0), *[call(0, 0)] * 8, told(7), told(8))
            self.assertEqual(found[1:8], [[number] for number in range(1, 8)])
            self.assertEqual(found[8], [-5])
            self.assertEqual((len(found[9]), found[10]), (5, [-2]))

    def test_none_such_is_told_ahead_of_no_room(self):
        for call in OF_TWO:
            found = answered(*[ideal(2, 0)] * 8, call(0, 8), call(8, 0), call(0, 0))
            self.assertEqual(found[8:], [[-2], [-2], [-5]])

    def test_norm_of_just_ten_to_the_twelve(self):
        start = [EIGHTH_ROOT_OF_ONE, ideal(100, 0, 0, 0), ideal(10, 0, 0, 0)]
        thousand = flat_rows([1000, 0, 0, 0], [0, 1000, 0, 0], [0, 0, 1000, 0], [0, 0, 0, 1000])
        self.assertEqual(answered(*start, product(0, 1), told(2))[3:], [[2], thousand])
        million = flat_rows([1000000, 0], [0, 1000000])
        start = [ideal(64, 0), ideal(25, 0), product(1, 1), product(2, 1)]
        self.assertEqual(answered(*start, common(0, 3), told(4))[4:], [[4], million])

    def test_norm_of_ten_to_the_twelve_and_one(self):
        # The norms of these are 73, 137 and 99990001.
        start = [EIGHTH_ROOT_OF_ONE, ideal(-3, -3, 0, 1), ideal(-2, -2, 2, 1), ideal(-1, 10, -100, 0), product(0, 1)]
        for call in (product, common):
            self.assertEqual(answered(*start, call(2, 3), told(4), call(0, 2))[4:], [[3], [-8], [-2], [4]])

    def test_norm_far_above(self):
        start = [ring(20, -20, 20, -20), ideal(0, 0, 0, 100), ideal(99, 0, 0, 1)]
        for call in (product, common):
            self.assertEqual(answered(*start, call(0, 1), told(2))[3:], [[-8], [-2]])

    def test_no_room_is_told_ahead_of_a_norm(self):
        for call in (product, common):
            found = answered(EIGHTH_ROOT_OF_ONE, *[ideal(100, 0, 0, 0), ideal(99, 0, 0, 0)] * 3, ideal(7, 0, 0, 0),
                             call(0, 1), ideal(7, 0, 0, 0), call(0, 1), told(7))
            self.assertEqual(found[8:11], [[-8], [7], [-5]])
            self.assertEqual(found[11][:2], [0, 7])


if __name__ == "__main__":
    unittest.main()
