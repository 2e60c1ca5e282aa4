"""Call 1: an ideal made of one, two or three numbers, and its refusals."""

import random
import unittest

from tests import oracle
from tests.support import MOST, answered, flat_rows, ideal, last, ring, rows_in, told

ROOT_OF_MINUS_FIVE = ring(5, 0)
CUBE_ROOT_OF_TWO = ring(-2, 0, 0)
EIGHTH_ROOT_OF_ONE = ring(1, 0, 0, 0)
WIDE = ring(-6, 4, -1, -18)
JUST_TEN_TO_THE_TWELVE = ideal(-100, 100, -100, 100)
# Its norm is 1003172303206.
ABOVE = ideal(-100, 99, -100, 100)
FILL = [ideal(2, 0)] * 8


class IdealTest(unittest.TestCase):
    def check_rows(self, start, places, *rows):
        self.assertEqual(answered(start, ideal(*places), told(0)), [[0], [0], flat_rows(*rows)])

    def test_made_of_one_number(self):
        self.check_rows(ROOT_OF_MINUS_FIVE, [1, 1], [6, 0], [1, 1])
        self.check_rows(ROOT_OF_MINUS_FIVE, [1, -1], [6, 0], [5, 1])
        self.check_rows(ROOT_OF_MINUS_FIVE, [0, -1], [5, 0], [0, 1])
        self.check_rows(ROOT_OF_MINUS_FIVE, [-7, 0], [7, 0], [0, 7])
        self.check_rows(ring(1, 1), [0, 1], [1, 0], [0, 1])
        self.check_rows(CUBE_ROOT_OF_TWO, [0, 1, 0], [2, 0, 0], [0, 1, 0], [0, 0, 1])
        self.check_rows(CUBE_ROOT_OF_TWO, [1, 1, 0], [3, 0, 0], [1, 1, 0], [2, 0, 1])
        self.check_rows(EIGHTH_ROOT_OF_ONE, [1, 1, 0, 0],
                        [2, 0, 0, 0], [1, 1, 0, 0], [1, 0, 1, 0], [1, 0, 0, 1])

    def test_made_of_two_numbers(self):
        self.check_rows(ROOT_OF_MINUS_FIVE, [2, 0, 1, 1], [2, 0], [1, 1])
        self.check_rows(ROOT_OF_MINUS_FIVE, [3, 0, 1, -1], [3, 0], [2, 1])
        self.check_rows(ROOT_OF_MINUS_FIVE, [2, 0, 3, 0], [1, 0], [0, 1])
        self.check_rows(CUBE_ROOT_OF_TWO, [5, 0, 0, -3, 1, 0], [5, 0, 0], [2, 1, 0], [1, 0, 1])
        self.check_rows(EIGHTH_ROOT_OF_ONE, [3, 0, 0, 0, -1, 1, 1, 0],
                        [3, 0, 0, 0], [0, 3, 0, 0], [2, 1, 1, 0], [1, 1, 0, 1])

    def test_made_of_three_numbers(self):
        self.check_rows(ROOT_OF_MINUS_FIVE, [12, 0, 20, 0, 2, 2], [4, 0], [2, 2])
        self.check_rows(CUBE_ROOT_OF_TWO, [12, 0, 0, 0, 8, 0, 0, 0, 6], [4, 0, 0], [0, 4, 0], [0, 0, 2])

    def test_numbers_that_are_0_or_the_same_add_nothing(self):
        self.check_rows(ROOT_OF_MINUS_FIVE, [0, 0, 1, 1], [6, 0], [1, 1])
        self.check_rows(ROOT_OF_MINUS_FIVE, [1, 1, 0, 0, 1, 1], [6, 0], [1, 1])
        self.check_rows(CUBE_ROOT_OF_TWO, [0, 0, 0, 0, 0, 0, 0, 0, 4], [8, 0, 0], [0, 8, 0], [0, 0, 4])

    def test_against_the_words(self):
        choices = random.Random(11)
        for coefficients, m in [((5, 0), 12), ((-3, 1), 30), ((3, 0), 16), ((20, -20), 18), ((-2, 0, 0), 10),
                                ((4, -7, 3), 8), ((1, 0, 0, 0), 4), ((5, 10, 0, -20), 6), ((3, 1, 2, 1), 5)]:
            width = len(coefficients)
            for _ in range(12):
                numbers = [[choices.randint(-100, 100) for _ in range(width)] for _ in range(choices.randint(0, 2))]
                numbers.append([m] + [0] * (width - 1))
                choices.shuffle(numbers)
                places = [place for number in numbers for place in number]
                found = last(ring(*coefficients), ideal(*places), told(0))
                expected = oracle.rows_of(oracle.made_of(coefficients, numbers, m), width, m)
                self.assertEqual(rows_in(found, width), expected, (coefficients, numbers))

    def test_answer_is_how_many_there_were(self):
        self.assertEqual(answered(*FILL), [[number] for number in range(8)])

    def test_eight_ideals_and_a_ninth(self):
        self.assertEqual(answered(*FILL, ideal(3, 0), told(7), told(8))[8:],
                         [[-5], flat_rows([2, 0], [0, 2]), [-2]])

    def test_too_few_and_too_many_numbers(self):
        for start, width in [(ROOT_OF_MINUS_FIVE, 2), (CUBE_ROOT_OF_TWO, 3), (EIGHTH_ROOT_OF_ONE, 4)]:
            for count in range(15):
                expected = [0] if count in (width, 2 * width, 3 * width) else [-1]
                self.assertEqual(last(start, ideal(*[1] * count)), expected, (width, count))

    def test_places_of_a_hundred_and_of_a_hundred_and_one(self):
        for places in ([100, 0], [0, -100], [1, 0, 0, 100], [1, 0, 1, 0, -100, 0]):
            self.assertEqual(answered(ideal(*places)), [[0]], places)
        for places in ([101, 0], [0, -101], [1, 0, 0, 101], [1, 0, 1, 0, -101, 0], [MOST, 0], [1, -MOST]):
            self.assertEqual(answered(ideal(*places)), [[-1]], places)

    def test_all_are_0(self):
        self.assertEqual(answered(ideal(0, 0), ideal(0, 0, 0, 0), ideal(0, 0, 0, 0, 0, 0)), [[-3]] * 3)
        self.assertEqual(last(EIGHTH_ROOT_OF_ONE, ideal(*[0] * 12)), [-3])
        self.assertEqual(answered(ideal(0, 0, 0), ideal(0, 0, 0, 1)), [[-1], [0]])

    def test_norm_of_just_ten_to_the_twelve(self):
        found = answered(WIDE, JUST_TEN_TO_THE_TWELVE, told(0))
        self.assertEqual(found[1], [0])
        rows = rows_in(found[2], 4)
        self.assertEqual(rows[0][0] * rows[1][1] * rows[2][2] * rows[3][3], 10 ** 12)

    def test_norm_above_ten_to_the_twelve(self):
        self.assertEqual(answered(WIDE, ABOVE, told(0)), [[0], [-8], [-2]])
        self.assertEqual(answered(ring(20, -20, 20, -20), ideal(100, 0, 0, 100)), [[0], [-8]])

    def test_order_of_refusals(self):
        fill = [ideal(2, 0, 0, 0)] * 8
        self.assertEqual(answered(WIDE, *fill, ABOVE)[9:], [[-5]])
        self.assertEqual(answered(WIDE, *fill, ideal(0, 0, 0, 0), ideal(0, 0, 101, 0), ideal())[9:],
                         [[-3], [-1], [-1]])
        self.assertEqual(answered(WIDE, *fill[:7], ABOVE, fill[0], ABOVE)[8:], [[-8], [7], [-5]])

    def test_refused_ideal_leaves_all_as_it_was(self):
        refused = [ideal(0, 0, 0, 0), ideal(0, 0, 101, 0), ideal(1), ABOVE]
        found = answered(WIDE, ideal(3, 0, 0, 0), *refused, told(0), told(1), ideal(0, 1, 0, 0))
        self.assertEqual(found[2:6], [[-3], [-1], [-1], [-8]])
        self.assertEqual(found[6:], [flat_rows([3, 0, 0, 0], [0, 3, 0, 0], [0, 0, 3, 0], [0, 0, 0, 3]), [-2], [1]])


if __name__ == "__main__":
    unittest.main()
